import PyProof.Rows.All
import Wide.All
import OpenK.AllK
import Wide.FinOn
import Lean
import PyProof.EqAt
import PyProof.EqKinds
import PyProof.TupleCall
import PyProof.ExcClass3
import PyProof.InstStoreFacts
import PyProof.RulesAs
import PyProof.NsDelKeeps
import PyProof.ExcArgsOwn
import PyProof.ExcAttrAll.ValueError
import PyProof.ExcBaseAll.ValueError
import PySem.Challenge.RW_lateknow_k83_rules_and_worlds
set_option Elab.async false
set_option linter.all false
set_option maxRecDepth 100000
set_option maxHeartbeats 4000000
set_option Elab.async false
set_option linter.all false
set_option maxRecDepth 100000
namespace L2
open PySem PySem.Spec PyProof.Rows
abbrev Key:=Sum Int Str
def keyIs:Key→Value→Bool
 | .inl k,v=>Value.isInt k v
 | .inr x,v=>Value.isStrOf x v
def keyH (w:World):Key→Int
 | .inl k=>hashInt k
 | .inr x=>hashStr w x
theorem j13:∀ {k:Key}{v:Value},keyIs k v=true→(∃ i t,k=Sum.inl i∧v=Value.int i t)∨(∃ x t,k=Sum.inr x∧v=Value.str x t)
 | .inl i,v,h=>by
  obtain⟨t,e⟩:=Value.isInt_shape (k:=i) (v:=v) h
  exact .inl ⟨i,t,rfl,e⟩
 | .inr x,v,h=>by
  obtain⟨t,e⟩:=Value.isStrOf_shape (x:=x) (v:=v) h
  exact .inr ⟨x,t,rfl,e⟩
theorem key_ll (a b:Int):decide ((Sum.inl a:Key)=Sum.inl b)=(a == b):=by
 by_cases e:a=b
 ·subst e;simp
 ·have h:¬ (Sum.inl a:Key)=Sum.inl b:=fun q=>e (Sum.inl.inj q)
  rw[decide_eq_false h]
  exact (beq_eq_false_iff_ne.mpr e).symm
theorem key_rr (a b:Str):decide ((Sum.inr a:Key)=Sum.inr b)=decide (a=b):=by
 by_cases e:a=b
 ·subst e;simp
 ·have h:¬ (Sum.inr a:Key)=Sum.inr b:=fun q=>e (Sum.inr.inj q)
  rw[decide_eq_false h,decide_eq_false e]
theorem key_lr (a:Int) (b:Str):decide ((Sum.inl a:Key)=Sum.inr b)=false:=decide_eq_false (fun q=>nomatch q)
theorem key_rl (a:Str) (b:Int):decide ((Sum.inr a:Key)=Sum.inl b)=false:=decide_eq_false (fun q=>nomatch q)
def j8n (prog:Program) (w:World):PySem.KeyKind prog w Key where
 is:=keyIs
 hash:=keyH w
 inj:=fun v a b ha hb=>by
  rcases j13 ha with⟨i,t,rfl,rfl⟩ | ⟨x,t,rfl,rfl⟩
  ·rcases j13 hb with⟨j,u,rfl,e⟩ | ⟨y,u,rfl,e⟩
   ·injection e with e1 _;rw[e1]
   ·exact nomatch e
  ·rcases j13 hb with⟨j,u,rfl,e⟩ | ⟨y,u,rfl,e⟩
   ·exact nomatch e
   ·injection e with e1 _;rw[e1]
 byValue:=fun k v h=>by
  rcases j13 h with⟨i,t,rfl,rfl⟩ | ⟨x,t,rfl,rfl⟩ <;> rfl
 pyHash:=fun hv h=>by
  rcases j13 hv with⟨i,t,rfl,rfl⟩ | ⟨x,t,rfl,rfl⟩
  ·exact wpAny_pyHash_int h
  ·exact wpAny_pyHash_str h
 eqBool:=fun hu hv h=>by
  rcases j13 hu with⟨i,t,rfl,rfl⟩ | ⟨x,t,rfl,rfl⟩
  ·rcases j13 hv with⟨j,u,rfl,rfl⟩ | ⟨y,u,rfl,rfl⟩
   ·rw[key_ll] at h;exact wpAny_eqBool_int h
   ·rw[key_lr] at h;exact SeqAt.EqAt.int_str i t y u _ _ _ _ h
  ·rcases j13 hv with⟨j,u,rfl,rfl⟩ | ⟨y,u,rfl,rfl⟩
   ·rw[key_rl] at h;exact SeqAt.EqAt.str_int x t j u _ _ _ _ h
   ·rw[key_rr] at h;exact wpAny_eqBool_str h
 «strs»:=fun k x t v h=>by
  rcases j13 h with⟨i,u,rfl,e⟩ | ⟨y,u,rfl,e⟩
  ·exact nomatch e
  ·injection e with e1 _
   subst e1
   cases v <;> rfl
inductive V where
 | non | bl (b:Bool) | int (i:Int) | str (x:Str) | byt (b:Array UInt8) | flt (b:UInt64) | ref (a:Addr) | ty (n:String)
 deriving DecidableEq
def RelV:V→Value→Prop
 | .non,u=>u=Value.none
 | .bl b,u=>u=Value.bool b
 | .int i,u=>∃ t,u=Value.int i t
 | .str x,u=>∃ t,u=Value.str x t
 | .byt b,u=>∃ t,u=Value.bytes b t
 | .flt b,u=>∃ t,u=Value.float b t
 | .ref a,u=>u=Value.ref a
 | .ty n,u=>u=Value.type n
abbrev Vals:List V→List Value→Prop:=Paired RelV
theorem Vals.length {xs:List V}{us:List Value} (r:Vals xs us):xs.length=us.length:=Paired.length r
theorem Vals.get:∀ {xs:List V}{us:List Value}{i:Nat}{x:V},Vals xs us→xs[i]?=some x→∃ u,us[i]?=some u∧RelV x u
 | _,_,_,_,.nil,e=>by simp at e
 | _,_,0,_,.cons r _,e=>by simp at e;subst e;exact⟨_,rfl,r⟩
 | _,_,i+1,x,.cons _ t,e=>by
  obtain⟨u,h1,h2⟩:=Vals.get (i:=i) (x:=x) t (by simpa using e)
  exact⟨u,by simpa using h1,h2⟩
theorem Vals.set {x:V}{u:Value} (r:RelV x u):∀ {xs:List V}{us:List Value} (i:Nat),Vals xs us→Vals (xs.set i x) (us.set i u)
 | _,_,_,.nil=>.nil
 | _,_,0,.cons _ t=>.cons r t
 | _,_,i+1,.cons q t=>.cons q (Vals.set r i t)
theorem Vals.append:∀ {xs ys:List V}{us ws:List Value},Vals xs us→Vals ys ws→Vals (xs++ys) (us++ws)
 | _,_,_,_,.nil,s=>s
 | _,_,_,_,.cons r t,s=>.cons r (Vals.append t s)
theorem Vals.take:∀ {xs:List V}{us:List Value} (n:Nat),Vals xs us→Vals (xs.take n) (us.take n)
 | _,_,0,_=>.nil
 | _,_,_+1,.nil=>.nil
 | _,_,n+1,.cons r t=>.cons r (Vals.take n t)
theorem Vals.drop:∀ {xs:List V}{us:List Value} (n:Nat),Vals xs us→Vals (xs.drop n) (us.drop n)
 | _,_,0,r=>r
 | _,_,_+1,.nil=>.nil
 | _,_,n+1,.cons _ t=>Vals.drop n t
def RelO:Option V→Option Value→Prop
 | some v,some u=>RelV v u
 | none,none=>True
 | _,_=>False
def KV {κ:Type}:List (κ × V)→List (κ × Value)→Prop:=Paired fun (p:κ × V) (q:κ × Value)=>p.1=q.1∧RelV p.2 q.2
def kV:Key→V
 | .inl i=>.int i
 | .inr x=>.str x
def TupN (h:Heap) (a:Addr) (xs:Array Value):Prop:=IsTup h a xs∧∃ o,h.get? a=some o∧o.dict=none
theorem TupN.new (h:Heap) (xs:Array Value):TupN (h.push { cls:=.type "tuple",data:=.seq xs }) h.objs.size xs:=⟨IsTup.new _ _,_,Heap.get?_push_size _ rfl,rfl⟩
inductive HO where
  | lst (xs:List V)
  | tup (xs:List V)
  | dK (kvs:List (Key × V)) | dT (kvs:List (List Key × V))
  | set (S:Int→Bool) (n:Nat)
  | ins (C dx:Addr) (fs:List (Str × V))
  | own (x:Addr)
  | xd (fs:List (Str × V))
  | met (f x:Addr)
  | rng (lo hi:Int)
  | frz (o:Obj) (u:HO)
  | tbl (ps:Array Value)
  | ext (φ:Heap→Prop)
abbrev Hp:=Addr→Option HO
def upd (H:Hp) (a:Addr) (o:HO):Hp:=fun b=>if b=a then some o else H b
theorem j0k {H:Hp}{a:Addr}{o:HO}:upd H a o a=some o:=by unfold upd;rw[if_pos rfl]
theorem j0o {H:Hp}{a b:Addr}{o:HO} (h:b≠a):upd H a o b=H b:=by unfold upd;rw[if_neg h]
theorem jbb {H:Hp}{a:Addr}{o u:HO}:upd (upd H a o) a u=upd H a u:=by
 funext b;unfold upd;split <;> rfl
theorem j47 {H:Hp}{a b:Addr}{o u:HO} (h:H a=some o) (h':H b=some u) (d:o≠u):a≠b:=by
 intro e;subst e;rw[h] at h';exact d (Option.some.inj h')
theorem j05 {H:Hp}{a b:Addr}{o:HO} (h:H a=some o) (h':H b=none):a≠b:=by
 intro e;subst e;rw[h] at h';cases h'
section
variable (P:Program) (w:World)
def ObjOk (H:Hp) (h:Heap) (a:Addr):HO→Prop
 | .lst xs=>xs.length≤sizeLine∧∃ (its:List Value) (n:Nat),Vals xs its∧h.get? a=some { cls:=.type "list",data:=.seq its.toArray n }
 | .tup xs=>xs.length≤sizeLine∧∃ its:List Value,Vals xs its∧TupN h a its.toArray
 | .dK kvs=>kvs.length≤sizeLine∧(a == sysModules)=false∧∃ vs,KV kvs vs∧h.DictOf (j8n P w) a vs
 | .dT kvs=>kvs.length≤sizeLine∧(a == sysModules)=false∧∃ xs:List (List Key × Addr × Value),
   Paired (fun (p:List Key × V) (q:List Key × Addr × Value)=>p.1=q.1∧H q.2.1=some (.tup (p.1.map kV))∧RelV p.2 q.2.2) kvs xs ∧
   ∃ o es ep,h.get? a=some o∧o.ExactDict∧o.data=.dict es ep∧es.toList=xs.map (entryOfKey (tupleKind (j8n P w)))∧(xs.map (·.1)).Nodup
 | .set S n=>h.SetOf (intKind P w) a S n
 | .ins C dx fs=>H dx=some (.own a)∧fs.length≤1000∧dx≠a∧h.get? a=some (PySem.W.instObj C dx) ∧
   ∃ mA,h.Ns1 dx mA∧(∀ f,RelO (fs.lookup f) (mA f))∧PySem.Within mA (fs.map (·.1))
 | .own _=>∃ o,h.get? a=some o
 | .xd fs=>∃ mA,h.Ns1 a mA∧∀ f,RelO (fs.lookup f) (mA f)
 | .rng lo hi=>∃ t u v,h.get? a=some { cls:=.type "range",data:=.fields #[.int lo t,.int hi u,.int 1 v] }
 | .frz o u=>h.get? a=some o∧ObjOk H h a u
 | .tbl ps=>h.get? a=some { cls:=.none,data:=.fields ps }
 | .met f x=>h.get? a=some (PySem.W.methodObj (.ref f) (.ref x))
 | .ext φ=>φ h∧(∃ o,h.get? a=some o)∧∀ h1 h2:Heap,φ h1→(∀ o,h1.get? a=some o→h2.get? a=some o)→φ h2
def HOk (H:Hp) (h:Heap):Prop:=∀ a o,H a=some o→ObjOk P w H h a o
end
section
variable {P:Program}{w:World}{H H':Hp}{h h':Heap}{a:Addr}{o:HO}
theorem ObjOk.lt (x:ObjOk P w H h a o):a < h.objs.size:=by
 cases o with
 | lst xs=>obtain⟨_,_,_,_,e⟩:=x;exact Heap.lt_size e
 | tup xs=>obtain⟨_,_,_,p⟩:=x;exact p.1.lt
 | dK kvs=>obtain⟨_,_,_,_,o,_,_,e,_⟩:=x;exact Heap.lt_size e
 | dT kvs=>obtain⟨_,_,_,_,o,_,_,e,_⟩:=x;exact Heap.lt_size e
 | set S n=>obtain⟨o,_,_,_,e,_⟩:=x;exact Heap.lt_size e
 | ins C dx fs=>obtain⟨_,_,_,e,_⟩:=x;exact Heap.lt_size e
 | own y=>obtain⟨_,e⟩:=x;exact Heap.lt_size e
 | xd fs=>obtain⟨_,⟨_,_,_,e,_⟩,_⟩:=x;exact Heap.lt_size e
 | rng lo hi=>obtain⟨_,_,_,e⟩:=x;exact Heap.lt_size e
 | frz ob u=>obtain⟨e,_⟩:=x;exact Heap.lt_size e
 | tbl ps=>exact Heap.lt_size (show h.get? a=some _ from x)
 | met f y=>exact Heap.lt_size (show h.get? a=some _ from x)
 | ext φ=>obtain⟨_,⟨_,e⟩,_⟩:=x;exact Heap.lt_size e
theorem Paired.mapP {α β:Type}{F G:α→β→Prop}:∀ {l₁:List α}{l₂:List β},Paired F l₁ l₂→(∀ a b,F a b→G a b)→Paired G l₁ l₂
 | _,_,.nil,_=>.nil
 | _,_,.cons r t,f=>.cons (f _ _ r) (Paired.mapP t f)
theorem ObjOk.stay (x:ObjOk P w H h a o) (k:∀ b u,(b=a∨H b=some (.own a))→h.get? b=some u→h'.get? b=some u)
  (ho:∀ b,H b=some (.own a)→H' b=some (.own a)) (ht:∀ b xs,H b=some (.tup xs)→H' b=some (.tup xs)):ObjOk P w H' h' a o:=by
 induction o with
 | lst xs=>obtain⟨z,its,n,r,e⟩:=x;exact⟨z,its,n,r,k _ _ (.inl rfl) e⟩
 | tup xs=>obtain⟨z,its,r,⟨ob,e,c⟩,od,f,d⟩:=x;exact⟨z,its,r,⟨ob,k _ _ (.inl rfl) e,c⟩,od,k _ _ (.inl rfl) f,d⟩
 | dK kvs=>obtain⟨z,y,vs,r,ob,es,ep,e,c⟩:=x;exact⟨z,y,vs,r,ob,es,ep,k _ _ (.inl rfl) e,c⟩
 | dT kvs =>
  obtain⟨z,y,xs,r,ob,es,ep,e,c⟩:=x
  exact⟨z,y,xs,Paired.mapP r fun p q z=>⟨z.1,ht _ _ z.2.1,z.2.2⟩,ob,es,ep,k _ _ (.inl rfl) e,c⟩
 | set S n=>obtain⟨ob,es,ep,t,e,c⟩:=x;exact⟨ob,es,ep,t,k _ _ (.inl rfl) e,c⟩
 | ins C dx fs =>
  obtain⟨d,z,ne,e,mA,⟨od,es,ep,e2,c⟩,r⟩:=x
  exact⟨ho _ d,z,ne,k _ _ (.inl rfl) e,mA,⟨od,es,ep,k _ _ (.inr d) e2,c⟩,r⟩
 | own y=>obtain⟨ob,e⟩:=x;exact⟨ob,k _ _ (.inl rfl) e⟩
 | xd fs=>obtain⟨mA,⟨od,es,ep,e,c⟩,r⟩:=x;exact⟨mA,⟨od,es,ep,k _ _ (.inl rfl) e,c⟩,r⟩
 | rng lo hi=>obtain⟨t,u,v,e⟩:=x;exact⟨t,u,v,k _ _ (.inl rfl) e⟩
 | frz ob u ih=>obtain⟨e,q⟩:=x;exact⟨k _ _ (.inl rfl) e,ih q⟩
 | tbl ps =>
  have e:h.get? a=some { cls:=.none,data:=.fields ps }:=x
  show h'.get? a=some { cls:=.none,data:=.fields ps }
  exact k a _ (.inl rfl) e
 | met f y =>
  have e:h.get? a=some (PySem.W.methodObj (.ref f) (.ref y)):=x
  show h'.get? a=some (PySem.W.methodObj (.ref f) (.ref y))
  exact k a _ (.inl rfl) e
 | ext φ=>obtain⟨p,⟨o,e⟩,st⟩:=x;exact⟨st _ _ p fun o q=>k _ _ (.inl rfl) q,⟨o,k _ _ (.inl rfl) e⟩,st⟩
theorem HOk.lt (x:HOk P w H h) (e:H a=some o):a < h.objs.size:=(x a o e).lt
theorem HOk.fresh (x:HOk P w H h) (e:h.objs.size≤a):H a=none:=by
 cases q:H a with
 | none=>rfl
 | some u=>exact absurd (Nat.lt_of_lt_of_le (x.lt q) e) (Nat.lt_irrefl _)
theorem HOk.kept (x:HOk P w H h) (k:∀ b u,h.get? b=some u→h'.get? b=some u):HOk P w H h':=fun a o e =>
 (x a o e).stay (fun b u _ q=>k b u q) (fun _ q=>q) fun _ _ q=>q
theorem HOk.laid (x:HOk P w H h) (k:∀ b u,h.get? b=some u→h'.get? b=some u) (hp:h.objs.size≤a) (new:ObjOk P w (upd H a o) h' a o):HOk P w (upd H a o) h':=fun b u e=>by
 have hn:=x.fresh hp
 by_cases hb:b=a
 ·subst hb;rw[j0k] at e;cases e;exact new
 ·rw[j0o hb] at e
  exact (x b u e).stay (fun c v _ q=>k c v q) (fun c q=>by rw[j0o (j05 q hn)];exact q) fun c xs q=>by rw[j0o (j05 q hn)];exact q
end
def Rd (H:Hp) (a:Addr) (u:HO):Prop:=H a=some u∨∃ o,H a=some (.frz o u)
theorem Rd.ok {P:Program}{w:World}{H:Hp}{h:Heap}{a:Addr}{u:HO} (r:Rd H a u) (x:HOk P w H h):ObjOk P w H h a u:=by
 rcases r with r | ⟨o,r⟩
 ·exact x a u r
 ·obtain⟨_,q⟩:=x a _ r
  exact q
def Mut:Option HO→Prop
 | some (.lst _)=>True
 | some (.dK _)=>True
 | some (.dT _)=>True
 | some (.set _ _)=>True
 | some (.ins _ _ _)=>True
 | some (.ext _)=>True
 | _=>False
section
variable {P:Program}{w:World}{H:Hp}{h h':Heap}{x e:Addr}{o':HO}
theorem HOk.write (ok:HOk P w H h) (mu:Mut (H x)) (he:e=x∨H e=some (.own x)) (k:∀ b u,b≠e→h.get? b=some u→h'.get? b=some u) (heo:∃ u,h'.get? e=some u)
  (new:ObjOk P w (upd H x o') h' x o'):HOk P w (upd H x o') h':=fun b u q=>by
 have nown:∀ c y,H c=some (.own y)→c≠x:=fun c y r z=>by subst z;rw[r] at mu;exact mu
 have ntup:∀ c xs,H c=some (.tup xs)→c≠x:=fun c xs r z=>by subst z;rw[r] at mu;exact mu
 by_cases hb:b=x
 ·subst hb;rw[j0k] at q;cases q;exact new
 ·rw[j0o hb] at q
  by_cases hbe:b=e
  ·have q':H b=some (.own x):=by
    rcases he with z | z
    ·exact absurd (hbe.trans z) hb
    ·rw[hbe];exact z
   rw[q] at q';cases q'
   obtain⟨v,hv⟩:=heo
   exact⟨v,by rw[hbe];exact hv⟩
  ·refine (ok b u q).stay (fun c v hc r=>k c v ?_ r) (fun c r=>by rw[j0o (nown c b r)];exact r) fun c xs r=>by rw[j0o (ntup c xs r)];exact r
   rcases hc with rfl | hc
   ·exact hbe
   ·rintro rfl
    rcases he with z | z
    ·exact nown c b hc z
    ·rw[hc] at z;cases z;exact hb rfl
end
structure Un (fs ex:List Addr) (H H':Hp) (h h':Heap):Prop where
 keep:∀ b o,h.get? b=some o→H b=none→b∉fs→b∉ex→h'.get? b=some o
 slot:∀ b o,h.get? b=some o→H b=none→b∈fs→b∉ex→∃ sl,h'.get? b=some { o with slots:=sl }
 free:∀ b o,h.get? b=some o→H b=none→b∉ex→H' b=none
 there:∀ b o,h.get? b=some o→b∉ex→∃ o',h'.get? b=some o'
 tups:∀ b xs,H b=some (.tup xs)→H' b=some (.tup xs)
 frzs:∀ b o u,H b=some (.frz o u)→H' b=some (.frz o u)
 tbls:∀ b ps,H b=some (.tbl ps)→∃ more,H' b=some (.tbl (ps++more))
section
variable {fs fs' ex ex':List Addr}{H H1 H2:Hp}{h h1 h2 h':Heap}{a x e:Addr}{o:HO}
theorem Un.any (u:Un fs ex H H1 h h1) {b:Addr}{ob:Obj} (q:h.get? b=some ob) (n:H b=none) (hx:b∉ex):∃ sl,h1.get? b=some { ob with slots:=sl }:=by
 by_cases hb:b∈fs
 ·exact u.slot b ob q n hb hx
 ·exact⟨ob.slots,u.keep b ob q n hb hx⟩
theorem Un.kept (k:∀ b u,h.get? b=some u→h'.get? b=some u):Un fs ex H H h h' :=
 ⟨fun b ob q _ _ _=>k b ob q,fun b ob q _ _ _=>⟨ob.slots,k b ob q⟩,fun _ _ _ n _=>n,fun b ob q _=>⟨ob,k b ob q⟩,fun _ _ q=>q,fun _ _ _ q=>q,fun _ ps q=>⟨#[],by rw[q];simp⟩⟩
theorem Un.refl:Un fs ex H H h h:=Un.kept fun _ _ q=>q
theorem Un.laid (k:∀ b u,h.get? b=some u→h'.get? b=some u) (hp:h.objs.size≤a) (hn:H a=none):Un fs ex H (upd H a o) h h' where
 keep:=fun b u q _ _ _=>k b u q
 slot:=fun b u q _ _ _=>⟨u.slots,k b u q⟩
 free:=fun b u q n _=>by rw[j0o (Nat.ne_of_lt (Nat.lt_of_lt_of_le (Heap.lt_size q) hp))];exact n
 there:=fun b u q _=>⟨u,k b u q⟩
 tups:=fun b xs q=>by rw[j0o (j05 q hn)];exact q
 frzs:=fun b u xs q=>by rw[j0o (j05 q hn)];exact q
 tbls:=fun b ps q=>⟨#[],by rw[j0o (j05 q hn),q];simp⟩
theorem Un.write (mu:Mut (H x)) (he:e=x∨H e=some (.own x)) (k:∀ b u,b≠e→h.get? b=some u→h'.get? b=some u) (heo:∃ u,h'.get? e=some u):Un fs ex H (upd H x o) h h':=by
 have hx:∀ b,H b=none→b≠x:=fun b n z=>by subst z;rw[n] at mu;exact mu
 have hb:∀ b,H b=none→b≠e:=fun b n z=>by
  subst z
  rcases he with r | r
  ·exact hx b n r
  ·rw[n] at r;cases r
 have hm:∀ b u,H b=some u→¬ Mut (some u)→b≠x:=fun b u q nm z=>by subst z;rw[q] at mu;exact nm mu
 refine⟨fun b u q n _ _=>k b u (hb b n) q,fun b u q n _ _=>⟨u.slots,k b u (hb b n) q⟩,fun b u q n _=>by rw[j0o (hx b n)];exact n,fun b u q _=>?_,
  fun b xs q=>by rw[j0o (hm b _ q fun z=>z)];exact q,fun b u xs q=>by rw[j0o (hm b _ q fun z=>z)];exact q,fun b ps q=>⟨#[],by rw[j0o (hm b _ q fun z=>z),q];simp⟩⟩
 by_cases hbe:b=e
 ·subst hbe;exact heo
 ·exact⟨u,k b u hbe q⟩
end
def trk (h:Heap) (H:Hp):List Addr:=(List.range h.objs.size).filter fun a=>(H a).isSome
def hidT (h:Heap) (H:Hp):Heap:=PySem.W.hideAll h (trk h H)
theorem ja5 (h:Heap) (H:Hp):(hidT h H).objs.size=h.objs.size:=PySem.W.hideAll_size _ _
theorem jby {h:Heap}{H:Hp}{b:Addr}{o:Obj} (e:h.get? b=some o) (n:H b=none):(hidT h H).get? b=some o :=
 PySem.W.hideAll_get _ e fun hm=>by
  have q:(H b).isSome=true:=(List.mem_filter.mp hm).2
  rw[n] at q;simp at q
theorem jd8 {h:Heap}{H:Hp}{b:Addr}{o:Obj} (e:(hidT h H).get? b=some o):h.get? b=some o∧H b=none:=by
 have e':h.get? b=some o:=PySem.W.of_hideAll (trk h H) e
 refine⟨e',?_⟩
 cases q:H b with
 | none=>rfl
 | some x =>
  have hm:b∈trk h H:=List.mem_filter.mpr ⟨List.mem_range.mpr (Heap.lt_size e'),by simp[q]⟩
  have z:(hidT h H).get? b=none:=PySem.W.hideAll_none (trk h H) hm
  rw[z] at e;cases e
def jd9 (g h:Heap) (L:Addr):List (Addr × Obj):=(List.range h.objs.size).filterMap fun a=>if a=L∨(g.get? a).isSome=true then none else (h.get? a).map fun o=>(a,o)
def rest (g h:Heap) (L d:Addr):List (Addr × Obj):=(jd9 g h L).filter fun p=>decide (p.1≠d)
structure Mod (K:PySem.W.Frag) (mg:Str→Option Value) (base:Heap):Prop where
 kin:K.In base
 glob:base.Ns mainGlobals mg
 blt:∃ mb,base.Ns builtinsNs mb∧∀ x:Str,x≠"__name__"→mb x=bootBuiltins x
 nolimit:base.NoLimit
 bmain:∃ bm ob,mg "__builtins__"=some (.ref bm)∧bm≠builtinsNs∧base.get? bm=some ob∧ob.cls=.type "module"∧ob.dict=some builtinsNs∧ob.data=.plain
structure Cx where
 prog:Program
 w:World
 K:PySem.W.Frag
 mg:Str→Option Value
 base:Heap
 A:Around
 N:List Str
 s₀:Shared
 H₀:Hp
 env:Env
 outer:List Env
 stack:List Env
 ex:List Addr
 fn:Str→Bool
 calm:Bool
 pn:List (Addr × Obj)
 xe:Value→Shared→Prop
def frs (l:List Env):List Addr:=l.filterMap (·.frame)
abbrev Cx.fs (X:Cx):List Addr:=frs X.outer
def Vis (sc:Scope) (x:Str):Prop:=sc.names.lookup x=some .local∨sc.names.lookup x=some .cell∨sc.names.lookup x=some .free
def Loc (sc:Scope) (x:Str):Prop:=sc.names.lookup x=some .local∨sc.names.lookup x=some .cell
def Look (env:Env) (h:Heap) (m:Str→Option Value) (x:Str) (u:Value):Prop :=
 (env.kindOf x=some .local∧m x=some u)∨((env.kindOf x=some .cell∨env.kindOf x=some .free)∧∃ c,env.cells.lookup x=some c∧h.IsCell c (some u))
structure Cx.Ok (X:Cx):Prop where
 mod:Mod X.K X.mg X.base
 kind:X.env.scope.kind=.function
 glob:X.env.globals=mainGlobals
 blt:X.env.builtins=builtinsNs
 above:X.s₀.heap.objs.size≤X.env.locals
 inj:∀ x y c,X.env.cells.lookup x=some c→X.env.cells.lookup y=some c→x=y
 has:∀ x,(X.env.kindOf x=some .cell∨X.env.kindOf x=some .free)→∃ c,X.env.cells.lookup x=some c
 cab:∀ x c,X.fn x=true→X.env.cells.lookup x=some c→X.s₀.heap.objs.size≤c
 hd:X.calm=true→X.A.handled=none
 frames:X.A.frames=some X.stack
 stk:X.stack=X.outer∨(X.stack=X.env :: X.outer∧X.env.frame=some X.env.locals)
 exf:∀ b∈X.ex,b≠X.env.locals∧∀ x c,X.env.cells.lookup x=some c→c≠b
 bs:∀ b o,X.base.get? b=some o→X.s₀.heap.get? b=some o∧X.H₀ b=none
 bsz:X.base.objs.size≤X.s₀.heap.objs.size
 noex:∀ b o,X.base.get? b=some o→b∉X.ex
 exfs:∀ b∈X.ex,b∉X.fs
 funs:X.s₀.heap.FunFrames X.base X.outer
 frf:∀ b∈X.fs,X.H₀ b=none
structure Inv (X:Cx) (pins:List (Addr × Obj)) (σ:List (Option V)) (H:Hp) (s:Shared):Prop where
 ok:X.Ok
 os:s.os=X.s₀.os
 bare:AllBare s.gens
 base:Un X.fs X.ex X.H₀ H X.s₀.heap s.heap
 loc:∃ m,s.heap.Ns X.env.locals m∧∀ (i:Nat) (x:Str) (v:V),X.N[i]?=some x→σ[i]?=some (some v)→Vis X.env.scope x→∃ u,RelV v u∧Look X.env s.heap m x u
 cell:∀ x c,X.env.cells.lookup x=some c→∃ v,s.heap.IsCell c v
 free:H X.env.locals=none
 freeC:∀ x c,X.env.cells.lookup x=some c→H c=none
 pin:∀ p∈X.pn++pins,s.heap.get? p.1=some p.2∧H p.1=none∧p.1≠X.env.locals∧p.1∉X.fs∧∀ v,p.2.data≠.cell v
 hok:HOk X.prog X.w H s.heap
 len:σ.length=X.N.length
section
variable {X:Cx}{pins:List (Addr × Obj)}{σ:List (Option V)}{H H':Hp}{s:Shared}{h':Heap}
theorem Cx.Ok.nofr (ok:X.Ok) {b:Addr}{o:Obj} (e:X.base.get? b=some o):b∉X.fs:=fun hb=>by
 have:=(ok.funs.mem hb).1
 rw[e] at this;cases this
theorem Inv.bs (I:Inv X pins σ H s):∀ b o,X.base.get? b=some o→s.heap.get? b=some o∧H b=none:=fun b o e =>
 ⟨I.base.keep b o (I.ok.bs b o e).1 (I.ok.bs b o e).2 (I.ok.nofr e) (I.ok.noex b o e),I.base.free b o (I.ok.bs b o e).1 (I.ok.bs b o e).2 (I.ok.noex b o e)⟩
theorem Inv.bk (I:Inv X pins σ H s):∀ b o,X.base.get? b=some o→s.heap.get? b=some o:=fun b o e=>(I.bs b o e).1
theorem Inv.mod (I:Inv X pins σ H s):Mod X.K X.mg X.base:=I.ok.mod
theorem Inv.kIn (I:Inv X pins σ H s):X.K.In s.heap:=I.ok.mod.kin.keeps I.bk
theorem Inv.lt (I:Inv X pins σ H s):X.env.locals < s.heap.objs.size:=let ⟨_,hn,_⟩:=I.loc;hn.lt
theorem Inv.sz (I:Inv X pins σ H s):X.s₀.heap.objs.size≤s.heap.objs.size:=Nat.le_trans I.ok.above (Nat.le_of_lt I.lt)
theorem Inv.nofs (I:Inv X pins σ H s) {a:Addr} (h:s.heap.objs.size≤a):a∉X.fs:=fun hb=>by
 obtain⟨_,o,ho,_⟩:=I.ok.funs.mem hb
 exact absurd (Nat.lt_of_lt_of_le (Heap.lt_size ho) (Nat.le_trans I.sz h)) (Nat.lt_irrefl _)
theorem Inv.cne (I:Inv X pins σ H s):∀ x c,X.env.cells.lookup x=some c→c≠X.env.locals:=fun x c e z=>by
 obtain⟨v,o,ho,hd⟩:=I.cell x c e
 obtain⟨m,⟨o',es,ep,ho',hd',_⟩,_⟩:=I.loc
 rw[z,ho'] at ho;cases ho;rw[hd'] at hd;cases hd
theorem Inv.funs (I:Inv X pins σ H s):s.heap.FunFrames X.base X.outer:=by
 have all:∀ (l:List Env),(∀ b∈frs l,b∈X.fs)→X.s₀.heap.FunFrames X.base l→s.heap.FunFrames X.base l:=by
  intro l
  induction l with
  | nil=>intro _ _;trivial
  | cons env r ih =>
   intro hs hl
   obtain⟨hk,⟨L,o,hf,hn,ho,hd⟩,hr⟩:=hl
   have hL:L∈X.fs:=hs L (by unfold frs;rw[List.filterMap_cons,hf];exact List.mem_cons_self)
   obtain⟨sl,e⟩:=I.base.slot L o ho (I.ok.frf L hL) hL fun z=>I.ok.exfs L z hL
   exact⟨hk,⟨L,_,hf,hn,e,hd⟩,ih (fun b hb=>hs b (by unfold frs;rw[List.filterMap_cons,hf];exact List.mem_cons_of_mem _ hb)) hr⟩
 exact all X.outer (fun _ hb=>hb) I.ok.funs
theorem Inv.stack (I:Inv X pins σ H s):s.heap.FunFrames X.base X.stack:=by
 rcases I.ok.stk with e | ⟨e,hf⟩
 ·rw[e];exact I.funs
 ·rw[e]
  obtain⟨m,hn,_⟩:=I.loc
  refine .cons (by rw[I.ok.kind];decide) hf hn ?_ I.funs
  exact Heap.get?_none_of_le (Nat.le_trans I.ok.bsz I.ok.above)
theorem Inv.stkSub (I:Inv X pins σ H s):∀ b∈frs X.stack,b∈X.env.locals :: X.fs:=fun b hb=>by
 rcases I.ok.stk with e | ⟨e,hf⟩
 ·rw[e] at hb;exact List.mem_cons_of_mem _ hb
 ·rw[e] at hb
  unfold frs at hb
  rw[List.filterMap_cons,hf] at hb
  exact hb
theorem Inv.stkFree (I:Inv X pins σ H s):∀ b∈frs X.stack,H b=none:=fun b hb=>by
 rcases List.mem_cons.mp (I.stkSub b hb) with e | hb
 ·rw[e];exact I.free
 ·obtain⟨_,o,ho,_⟩:=I.ok.funs.mem hb
  exact I.base.free b o ho (I.ok.frf b hb) fun z=>I.ok.exfs b z hb
theorem Inv.step {g':Array GenState}{t':Nat}{d':Drawn}{ch:List Addr} (I:Inv X pins σ H s)
  (hch:∀ b∈ch,(b∈X.ex∨X.s₀.heap.objs.size≤b)∧b≠X.env.locals∧(∀ x c,X.env.cells.lookup x=some c→c≠b)∧∀ p∈X.pn++pins,p.1≠b)
  (keep:∀ b o,b≠X.env.locals→b∉X.fs→b∉ch→s.heap.get? b=some o→H b=none→h'.get? b=some o)
  (slot:∀ b o,b≠X.env.locals→b∈X.fs→b∉ch→s.heap.get? b=some o→H b=none→∃ sl,h'.get? b=some { o with slots:=sl }) (free:∀ b o,b∉ch→s.heap.get? b=some o→H b=none→H' b=none)
  (there:∀ b o,b∉ch→s.heap.get? b=some o→∃ o',h'.get? b=some o')
  (tups:∀ b xs,H b=some (.tup xs)→H' b=some (.tup xs)) (frzs:∀ b o u,H b=some (.frz o u)→H' b=some (.frz o u)) (tbls:∀ b ps,H b=some (.tbl ps)→∃ more,H' b=some (.tbl (ps++more)))
  (ns:∀ m,s.heap.Ns X.env.locals m→h'.Ns X.env.locals m) (hok:HOk X.prog X.w H' h') (hg:AllBare g') :
  Inv X pins σ H' { s with heap:=h',gens:=g',drawn:=d',toks:=t' }:=by
 have neL:∀ b o,X.s₀.heap.get? b=some o→b≠X.env.locals:=fun b o e=>Nat.ne_of_lt (Nat.lt_of_lt_of_le (Heap.lt_size e) I.ok.above)
 have neC:∀ b o,X.s₀.heap.get? b=some o→b∉X.ex→b∉ch:=fun b o e hx hb=>by
  rcases (hch b hb).1 with z | z
  ·exact hx z
  ·exact absurd (Nat.lt_of_lt_of_le (Heap.lt_size e) z) (Nat.lt_irrefl _)
 have cellK:∀ x c,X.env.cells.lookup x=some c→∀ v,s.heap.IsCell c v→h'.IsCell c v:=fun x c e v ⟨o,ho,hd⟩=>by
  have nch:c∉ch:=fun z=>(hch c z).2.2.1 x c e rfl
  by_cases hc:c∈X.fs
  ·obtain⟨sl,q⟩:=slot c o (I.cne x c e) hc nch ho (I.freeC x c e)
   exact⟨_,q,hd⟩
  ·exact⟨o,keep c o (I.cne x c e) hc nch ho (I.freeC x c e),hd⟩
 refine⟨I.ok,I.os,hg,⟨fun b o e n hb hx=>?_,fun b o e n hb hx=>?_,fun b o e n hx=>?_,fun b o e hx=>?_,fun b xs e=>tups b xs (I.base.tups b xs e),fun b o xs e=>frzs b o xs (I.base.frzs b o xs e),fun b ps e=>?_⟩,?_,fun x c e=>?_,?_,fun x c e=>?_,fun p hp=>?_,hok,I.len⟩
 ·exact keep b o (neL b o e) hb (neC b o e hx) (I.base.keep b o e n hb hx) (I.base.free b o e n hx)
 ·obtain⟨sl,e1⟩:=I.base.slot b o e n hb hx
  obtain⟨sl',e2⟩:=slot b _ (neL b o e) hb (neC b o e hx) e1 (I.base.free b o e n hx)
  exact⟨sl',e2⟩
 ·obtain⟨o',e1⟩:=I.base.there b o e hx
  exact free b o' (neC b o e hx) e1 (I.base.free b o e n hx)
 ·obtain⟨o',e1⟩:=I.base.there b o e hx
  exact there b o' (neC b o e hx) e1
 ·obtain⟨m1,e1⟩:=I.base.tbls b ps e
  obtain⟨m2,e2⟩:=tbls b _ e1
  exact⟨m1++m2,by rw[e2,Array.append_assoc]⟩
 ·obtain⟨m,hn,hl⟩:=I.loc
  refine⟨m,ns m hn,fun i x v e1 e2 e3=>?_⟩
  obtain⟨u,r,l⟩:=hl i x v e1 e2 e3
  refine⟨u,r,?_⟩
  rcases l with l | ⟨k,c,e,z⟩
  ·exact .inl l
  ·exact .inr ⟨k,c,e,cellK x c e _ z⟩
 ·obtain⟨v,z⟩:=I.cell x c e
  exact⟨v,cellK x c e v z⟩
 ·obtain⟨m,⟨o,_,_,ho,_⟩,_⟩:=I.loc
  exact free _ o (fun z=>(hch _ z).2.1 rfl) ho I.free
 ·obtain⟨v,o,ho,hd⟩:=I.cell x c e
  exact free c o (fun z=>(hch c z).2.2.1 x c e rfl) ho (I.freeC x c e)
 ·obtain⟨e,n,ne,nf,d⟩:=I.pin p hp
  have nch:p.1∉ch:=fun z=>(hch p.1 z).2.2.2 p hp rfl
  exact⟨keep p.1 p.2 ne nf nch e n,free p.1 p.2 nch e n,ne,nf,d⟩
theorem Inv.un {t':Nat} (I:Inv X pins σ H s) (u:Un X.fs [] H H' s.heap h') (hok:HOk X.prog X.w H' h'):Inv X pins σ H' { s with heap:=h',toks:=t' }:=by
 obtain⟨m,⟨o,es,ep,ho,r⟩,_⟩:=id I.loc
 obtain⟨sl,hL⟩:=u.any ho I.free (by simp)
 exact I.step (g':=s.gens) (d':=s.drawn) (ch:=[]) (fun _ z=>nomatch z) (fun b o _ hb _ e n=>u.keep b o e n hb (by simp)) (fun b o _ hb _ e n=>u.slot b o e n hb (by simp)) (fun b o _ e n=>u.free b o e n (by simp)) (fun b o _ e=>u.there b o e (by simp)) u.tups u.frzs u.tbls (fun m' hm=>by
  obtain⟨o',es',ep',ho',r'⟩:=hm
  rw[ho] at ho';cases ho'
  exact⟨_,es',ep',hL,r'⟩) hok I.bare
theorem Inv.call {g':Array GenState}{t':Nat}{d':Drawn}{ch:List Addr} (I:Inv X pins σ H s) (u:Un (frs X.stack) ch H H' s.heap h') (hok:HOk X.prog X.w H' h') (hg:AllBare g')
  (hch:∀ b∈ch,(b∈X.ex∨X.s₀.heap.objs.size≤b)∧b≠X.env.locals∧(∀ x c,X.env.cells.lookup x=some c→c≠b)∧∀ p∈X.pn++pins,p.1≠b) :
  Inv X pins σ H' { s with heap:=h',gens:=g',drawn:=d',toks:=t' }:=by
 obtain⟨m,⟨o,es,ep,ho,r⟩,_⟩:=id I.loc
 obtain⟨sl,hL⟩:=u.any ho I.free fun z=>(hch _ z).2.1 rfl
 exact I.step (ch:=ch) hch (fun b o hL hb hc e n=>u.keep b o e n (fun z=>(List.mem_cons.mp (I.stkSub b z)).elim hL hb) hc) (fun b o _ _ hc e n=>u.any e n hc) (fun b o hc e n=>u.free b o e n hc) (fun b o hc e=>u.there b o e hc) u.tups u.frzs u.tbls (fun m' hm=>by
  obtain⟨o',es',ep',ho',r'⟩:=hm
  rw[ho] at ho';cases ho'
  exact⟨_,es',ep',hL,r'⟩) hok hg
theorem Inv.turned {t':Nat}{it:Addr} (I:Inv X pins σ H s) (k:∀ b o,b≠it→s.heap.get? b=some o→h'.get? b=some o) (hn:H it=none) (hL:it≠X.env.locals)
  (h1:it∈X.ex∨X.s₀.heap.objs.size≤it) (h2:∀ x c,X.env.cells.lookup x=some c→c≠it) (h3:∀ p∈X.pn++pins,p.1≠it):Inv X pins σ H { s with heap:=h',toks:=t' }:=by
 have nit:∀ b u,H b=some u→b≠it:=fun b u e z=>by rw[z,hn] at e;cases e
 refine I.step (g':=s.gens) (d':=s.drawn) (ch:=[it]) (fun b hb=>?_) (fun b o _ _ hc e _=>k b o (fun z=>hc (by simp[z])) e) (fun b o _ _ hc e _=>⟨o.slots,k b o (fun z=>hc (by simp[z])) e⟩) (fun _ _ _ _ n=>n)
  (fun b o hc e=>⟨o,k b o (fun z=>hc (by simp[z])) e⟩) (fun _ _ e=>e) (fun _ _ _ e=>e) (fun b ps e=>⟨#[],by rw[e];simp⟩) (fun m hm=>?_) (fun b u e=>?_) I.bare
 ·have e:b=it:=by simpa using hb
  subst e
  exact⟨h1,hL,h2,h3⟩
 ·obtain⟨o,es,ep,ho,r⟩:=hm
  exact⟨o,es,ep,k _ o (Ne.symm hL) ho,r⟩
 ·refine (I.hok b u e).stay (fun c v hc q=>k c v ?_ q) (fun _ q=>q) fun _ _ q=>q
  rcases hc with z | z
  ·rw[z];exact nit b u e
  ·exact nit c _ z
theorem Inv.tok (I:Inv X pins σ H s) (t:Nat):Inv X pins σ H { s with toks:=t }:=I.un (h':=s.heap) (t':=t) Un.refl I.hok
theorem Inv.kept {t':Nat} (I:Inv X pins σ H s) (k:∀ b u,s.heap.get? b=some u→h'.get? b=some u):Inv X pins σ H { s with heap:=h',toks:=t' }:=I.un (Un.kept k) (I.hok.kept k)
theorem Inv.laid {a:Addr}{o:HO}{t':Nat} (I:Inv X pins σ H s) (k:∀ b u,s.heap.get? b=some u→h'.get? b=some u) (hp:s.heap.objs.size≤a) (new:ObjOk X.prog X.w (upd H a o) h' a o) :
  Inv X pins σ (upd H a o) { s with heap:=h',toks:=t' }:=I.un (Un.laid k hp (I.hok.fresh hp)) (I.hok.laid k hp new)
theorem Inv.write {x e:Addr}{o:HO}{t':Nat} (I:Inv X pins σ H s) (mu:Mut (H x)) (he:e=x∨H e=some (.own x)) (k:∀ b u,b≠e→s.heap.get? b=some u→h'.get? b=some u) (heo:∃ u,h'.get? e=some u)
  (new:ObjOk X.prog X.w (upd H x o) h' x o):Inv X pins σ (upd H x o) { s with heap:=h',toks:=t' }:=I.un (Un.write mu he k heo) (I.hok.write mu he k heo new)
theorem Inv.pins_of {pins':List (Addr × Obj)} (I:Inv X pins σ H s) (h:∀ p∈pins',s.heap.get? p.1=some p.2∧H p.1=none∧p.1≠X.env.locals∧p.1∉X.fs∧∀ v,p.2.data≠.cell v):Inv X pins' σ H s :=
 ⟨I.ok,I.os,I.bare,I.base,I.loc,I.cell,I.free,I.freeC,fun p hp=>(List.mem_append.mp hp).elim (fun z=>I.pin p (List.mem_append_left _ z)) (h p),I.hok,I.len⟩
theorem j8o {N:List Str} (hN:N.Nodup) {i j:Nat}{x:Str} (a:N[i]?=some x) (b:N[j]?=some x):i=j:=by
 obtain⟨h1,e1⟩:=List.getElem?_eq_some_iff.mp a
 obtain⟨h2,e2⟩:=List.getElem?_eq_some_iff.mp b
 exact (List.getElem_inj hN).mp (e1.trans e2.symm)
theorem ja6 {M:Model}{A:Around}{E:Value→Shared→Prop}{i:Nat}{x:Str}{v:V}{u:Value}{Q:Unit→Shared→Prop} (I:Inv X pins σ H s) (hN:X.N.Nodup) (hi:X.N[i]?=some x) (hx:Loc X.env.scope x) (r:RelV v u)
  (h:∀ s',Inv X pins (σ.set i (some v)) H s'→(∃ a,Heap.SameBut a s.heap s'.heap∧(a=X.env.locals∨X.env.cells.lookup x=some a))→Q () s') (hf:X.fn x=true∨X.env.scope.names.lookup x=some .local:=by first | exact .inl rfl | exact .inr rfl | assumption):wpAny M A (storeName X.env x u) Q E s:=by
 obtain⟨m,hn,hl⟩:=id I.loc
 have hcls:(X.env.scope.kind == .class || (X.env.scope.kind == .module && X.env.locals != X.env.globals))=false:=by rw[I.ok.kind];rfl
 have hiσ:i < σ.length:=by rw[I.len];exact (List.getElem?_eq_some_iff.mp hi).1
 have cne:=I.cne
 have tracked:∀ {a:Addr}{h':Heap},(∃ o,s.heap.get? a=some o∧H a=none)→Heap.SameBut a s.heap h'→HOk X.prog X.w H h':=fun {a h'} ha hs b ob e=>by
  obtain⟨_,_,hfree⟩:=ha
  refine (I.hok b ob e).stay (fun c w' hc q=>(hs.2 c ?_).trans q) (fun _ q=>q) fun _ _ q=>q
  rintro rfl
  rcases hc with rfl | hc
  ·rw[hfree] at e;cases e
  ·rw[hfree] at hc;cases hc
 rcases hx with hk | hk
 ·refine wpAny_storeName_local hk hn (fun h' hn' hs=>?_) hcls
  obtain⟨oL,_,_,hoL,_⟩:=id hn
  refine h _ ⟨I.ok,I.os,I.bare,⟨fun b o e n hb hx=>?_,fun b o e n hb hx=>?_,I.base.free,fun b o e hx=>?_,I.base.tups,I.base.frzs,I.base.tbls⟩,⟨_,hn',fun j y v' e1 e2 e3=>?_⟩,fun y c e=>?_,I.free,I.freeC,fun p hp=>?_,tracked ⟨oL,hoL,I.free⟩ hs,by simpa using I.len⟩ ⟨_,hs,.inl rfl⟩
  ·exact (hs.2 b (Nat.ne_of_lt (Nat.lt_of_lt_of_le (Heap.lt_size e) I.ok.above))).trans (I.base.keep b o e n hb hx)
  ·obtain⟨sl,e1⟩:=I.base.slot b o e n hb hx
   exact⟨sl,(hs.2 b (Nat.ne_of_lt (Nat.lt_of_lt_of_le (Heap.lt_size e) I.ok.above))).trans e1⟩
  ·obtain⟨o',e1⟩:=I.base.there b o e hx
   exact⟨o',(hs.2 b (Nat.ne_of_lt (Nat.lt_of_lt_of_le (Heap.lt_size e) I.ok.above))).trans e1⟩
  ·by_cases hj:j=i
   ·subst hj
    rw[hi] at e1;cases e1
    rw[List.getElem?_set_self hiσ] at e2
    cases e2
    exact⟨u,r,.inl ⟨hk,by simp⟩⟩
   ·rw[List.getElem?_set_ne (Ne.symm hj)] at e2
    obtain⟨u',r',q⟩:=hl j y v' e1 e2 e3
    refine⟨u',r',?_⟩
    rcases q with⟨k,e⟩ | ⟨k,c,e,z⟩
    ·refine .inl ⟨k,?_⟩
     have:y≠x:=fun e=>hj (j8o hN e1 (e ▸ hi))
     simp[this,e]
    ·exact .inr ⟨k,c,e,z.sameBut hs (cne y c e)⟩
  ·obtain⟨w',z⟩:=I.cell y c e
   exact⟨w',z.sameBut hs (cne y c e)⟩
  ·obtain⟨e,n,ne,nf,d⟩:=I.pin p hp
   exact⟨(hs.2 p.1 ne).trans e,n,ne,nf,d⟩
 ·have hfn:X.fn x=true:=by
   rcases hf with z | z
   ·exact z
   ·rw[z] at hk;cases hk
  obtain⟨c,hc⟩:=I.ok.has x (.inl hk)
  obtain⟨w',z⟩:=I.cell x c hc
  refine wpAny_storeName_cell I.ok.kind hk hc z (fun h' hc' hs=>?_)
  obtain⟨oc,hoc,hocd⟩:=id z
  refine h { s with heap:=h' } ⟨I.ok,I.os,I.bare,⟨fun b o e n hb hx=>?_,fun b o e n hb hx=>?_,I.base.free,fun b o e hx=>?_,I.base.tups,I.base.frzs,I.base.tbls⟩,⟨m,hn.sameBut hs (Ne.symm (cne x c hc)),fun j y v' e1 e2 e3=>?_⟩,fun y c' e=>?_,I.free,I.freeC,fun p hp=>?_,tracked ⟨oc,hoc,I.freeC x c hc⟩ hs,by simpa using I.len⟩ ⟨c,hs,.inr hc⟩
  ·exact (hs.2 b (Nat.ne_of_lt (Nat.lt_of_lt_of_le (Heap.lt_size e) (I.ok.cab x c hfn hc)))).trans (I.base.keep b o e n hb hx)
  ·obtain⟨sl,e1⟩:=I.base.slot b o e n hb hx
   exact⟨sl,(hs.2 b (Nat.ne_of_lt (Nat.lt_of_lt_of_le (Heap.lt_size e) (I.ok.cab x c hfn hc)))).trans e1⟩
  ·obtain⟨o',e1⟩:=I.base.there b o e hx
   exact⟨o',(hs.2 b (Nat.ne_of_lt (Nat.lt_of_lt_of_le (Heap.lt_size e) (I.ok.cab x c hfn hc)))).trans e1⟩
  ·by_cases hj:j=i
   ·subst hj
    rw[hi] at e1;cases e1
    rw[List.getElem?_set_self hiσ] at e2
    cases e2
    exact⟨u,r,.inr ⟨.inl hk,c,hc,hc'⟩⟩
   ·rw[List.getElem?_set_ne (Ne.symm hj)] at e2
    obtain⟨u',r',q⟩:=hl j y v' e1 e2 e3
    refine⟨u',r',?_⟩
    rcases q with q | ⟨k,c',e,z'⟩
    ·exact .inl q
    ·refine .inr ⟨k,c',e,z'.sameBut hs ?_⟩
     rintro rfl
     exact hj (j8o hN e1 (I.ok.inj _ _ _ e hc ▸ hi))
  ·by_cases hcc:c'=c
   ·subst hcc;exact⟨_,hc'⟩
   ·obtain⟨w2,z2⟩:=I.cell y c' e
    exact⟨w2,z2.sameBut hs hcc⟩
  ·obtain⟨e,n,ne,nf,d⟩:=I.pin p hp
   refine⟨(hs.2 p.1 ?_).trans e,n,ne,nf,d⟩
   intro q
   rw[q,hoc] at e
   have q':oc=p.2:=Option.some.inj e
   exact d w' (by rw[← q'];exact hocd)
theorem j6a {M:Model}{A:Around}{E:Value→Shared→Prop}{i:Nat}{x:Str}{v:V}{u:Value}{Q:Unit→Shared→Prop} (I:Inv X pins σ H s) (hN:X.N.Nodup) (hi:X.N[i]?=some x) (hx:Loc X.env.scope x) (r:RelV v u)
  (h:∀ s',Inv X pins (σ.set i (some v)) H s'→Q () s') (hf:X.fn x=true∨X.env.scope.names.lookup x=some .local:=by first | exact .inl rfl | exact .inr rfl | assumption):wpAny M A (storeName X.env x u) Q E s :=
 ja6 I hN hi hx r (fun s' I' _=>h s' I') hf
theorem Inv.call' {s':Shared}{ch:List Addr} (I:Inv X pins σ H s) (ho:s'.os=s.os) (u:Un (frs X.stack) ch H H' s.heap s'.heap) (hok:HOk X.prog X.w H' s'.heap) (hg:AllBare s'.gens)
  (hch:∀ b∈ch,(b∈X.ex∨X.s₀.heap.objs.size≤b)∧b≠X.env.locals∧(∀ x c,X.env.cells.lookup x=some c→c≠b)∧∀ p∈X.pn++pins,p.1≠b):Inv X pins σ H' s':=by
 obtain⟨h',g',d',t',o'⟩:=s'
 have e:o'=s.os:=ho
 subst e
 exact I.call (g':=g') (t':=t') (d':=d') u hok hg hch
end
abbrev XK:=Value→Option Addr→Hp→Prop
abbrev St:=List (Option V)
abbrev VK:=V→Hp→Prop
abbrev TE:=St→Hp→VK→Prop
abbrev TT:=St→Hp→(Bool→Hp→Prop)→Prop
abbrev TA:=St→Hp→(List V→Hp→Prop)→Prop
structure Ends where
 nx:St→Hp→Prop
 rt:VK
 bk:St→Hp→Prop:=fun _ _=>False
 ct:St→Hp→Prop:=fun _ _=>False
abbrev TS:=Ends→St→Hp→Prop
def EP (X:Cx) (pins:List (Addr × Obj)) (σ:St) (Q:VK) (u:Value) (s':Shared):Prop:=∃ v H',Inv X pins σ H' s'∧RelV v u∧Q v H'
def TP (X:Cx) (pins:List (Addr × Obj)) (σ:St) (Q:Bool→Hp→Prop) (b:Bool) (s':Shared):Prop:=∃ H',Inv X pins σ H' s'∧Q b H'
def AP (X:Cx) (pins:List (Addr × Obj)) (σ:St) (Q:List V→Hp→Prop) (us:List Value) (s':Shared):Prop:=∃ vs H',Inv X pins σ H' s'∧Vals vs us∧Q vs H'
def SP (X:Cx) (pins:List (Addr × Obj)) (D:Ends) (f:Flow) (s':Shared):Prop :=
 match f with
 | .next=>∃ σ' H',Inv X pins σ' H' s'∧D.nx σ' H'
 | .brk=>∃ σ' H',Inv X pins σ' H' s'∧D.bk σ' H'
 | .cont=>∃ σ' H',Inv X pins σ' H' s'∧D.ct σ' H'
 | .ret u=>∃ v σ' H',Inv X pins σ' H' s'∧RelV v u∧D.rt v H'
def PE (X:Cx) (e:Expr) (t:TE):Prop :=
 ∀ (pins:List (Addr × Obj)) (s:Shared) (σ:St) (H:Hp) (Q:VK),Inv X pins σ H s→t σ H Q→wpAny (model X.prog X.w) X.A (eval e X.env) (EP X pins σ Q) X.xe s
def PT (X:Cx) (e:Expr) (t:TT):Prop :=
 ∀ (pins:List (Addr × Obj)) (s:Shared) (σ:St) (H:Hp) (Q:Bool→Hp→Prop),Inv X pins σ H s→t σ H Q→wpAny (model X.prog X.w) X.A (isTrue e X.env (eval e X.env)) (TP X pins σ Q) X.xe s
def PW (X:Cx) (e:Expr) (t:TT):Prop :=
 ∀ (whole:Sem Value) (pins:List (Addr × Obj)) (s:Shared) (σ:St) (H:Hp) (Q:Bool→Hp→Prop),Inv X pins σ H s→t σ H Q→wpAny (model X.prog X.w) X.A (isTrue e X.env whole) (TP X pins σ Q) X.xe s
theorem PW.pt {X:Cx}{e:Expr}{t:TT} (h:PW X e t):PT X e t:=h _
def PA (X:Cx) (es:List Expr) (t:TA):Prop :=
 ∀ (pos:Pos) (pins:List (Addr × Obj)) (s:Shared) (σ:St) (H:Hp) (Q:List V→Hp→Prop),Inv X pins σ H s→t σ H Q→wpAny (model X.prog X.w) X.A (spliced (backTo pos (starEach es X.env))) (AP X pins σ Q) X.xe s
def PS (X:Cx) (st:Stmt) (t:TS):Prop :=
 ∀ (pins:List (Addr × Obj)) (s:Shared) (σ:St) (H:Hp) (D:Ends),Inv X pins σ H s→t D σ H→wpAny (model X.prog X.w) X.A (exec st X.env) (SP X pins D) X.xe s
def PSs (X:Cx) (st:List Stmt) (t:TS):Prop :=
 ∀ (pins:List (Addr × Obj)) (s:Shared) (σ:St) (H:Hp) (D:Ends),Inv X pins σ H s→t D σ H→wpAny (model X.prog X.w) X.A (execs st X.env) (SP X pins D) X.xe s
theorem thn {α:Type}{t:Sem α}{Q Q':α→Shared→Prop}{M:Model}{A:Around}{E:Value→Shared→Prop}{s:Shared} (h:wpAny M A t Q E s) (hQ:∀ a s,Q a s→Q' a s):wpAny M A t Q' E s:=wpAny_mono h hQ fun _ _ x=>x
section
variable {X:Cx}
def tVar (i:Nat):TE:=fun σ H Q=>∃ v,σ[i]?=some (some v)∧Q v H
def tC (v:V):TE:=fun _ H Q=>Q v H
theorem pe_var {i:Nat}{x:Str}{pos:Pos} (hN:X.N[i]?=some x) (hv:Vis X.env.scope x) (hd:(x == ("__debug__":Str))=false:=by decide) (hcd:(x == ("__classdict__":Str))=false:=by decide):PE X (.Name x pos) (tVar i):=by
 intro pins s σ H Q I h
 obtain⟨v,e,h⟩:=h
 obtain⟨m,hn,hl⟩:=I.loc
 obtain⟨u,r,l⟩:=hl i x v hN e hv
 have fin:EP X pins σ Q u s:=⟨v,H,I,r,h⟩
 rcases l with⟨hk,hm⟩ | ⟨hk,c,hc,hcell⟩
 ·exact wpAny_Name (wpAny_loadName_local I.ok.kind hk hn hm fin) hd
 ·rcases hk with hk | hk
  ·exact wpAny_Name (wpAny_loadName_cell I.ok.kind hk hc hcell fin) hd
  ·exact wpAny_Name (wpAny_loadName_free I.ok.kind hk hc hcell fin hcd) hd
theorem j08 {i j pos}:PE X (.Constant (.int i) j pos) (tC (.int i)):=fun _ _ _ H _ I h=>wpAny_Constant_int ⟨.int i,H,I.tok _,⟨_,rfl⟩,h⟩
theorem j30 {b j pos}:PE X (.Constant (.bool b) j pos) (tC (.bl b)):=fun _ _ _ H _ I h=>Constant_bool ⟨.bl b,H,I,rfl,h⟩
theorem j82 {j pos}:PE X (.Constant .none j pos) (tC .non):=fun _ _ _ H _ I h=>Constant_none ⟨.non,H,I,rfl,h⟩
theorem j0q {x j pos}:PE X (.Constant (.str x) j pos) (tC (.str x)):=fun _ _ _ H _ I h=>Calls.Constant_str ⟨.str x,H,I.tok _,⟨_,rfl⟩,h⟩
def Gl (X:Cx) (x:Str):Prop:=X.env.kindOf x=some .globalImplicit
theorem j8p {E:Value→Shared→Prop}{pins:List (Addr × Obj)}{s:Shared}{σ:St}{H:Hp}{x:Str}{u:Value}{pos:Pos}{Q:Value→Shared→Prop} (I:Inv X pins σ H s) (hg:Gl X x) (hm:X.mg x=some u) (h:Q u s)
  (hd:(x == ("__debug__":Str))=false:=by decide):wpAny (model X.prog X.w) X.A (eval (.Name x pos) X.env) Q E s :=
 Calls.Name_function_global I.ok.kind hg (Calls.loadGlobal_global (by rw[I.ok.glob];exact I.mod.glob.keeps I.bk) hm h) hd
theorem j6b {E:Value→Shared→Prop}{pins:List (Addr × Obj)}{s:Shared}{σ:St}{H:Hp}{x:Str}{u:Value}{pos:Pos}{Q:Value→Shared→Prop} (I:Inv X pins σ H s) (hg:Gl X x) (hm:X.mg x=none) (hv:bootBuiltins x=some u) (h:Q u s)
  (hn:x≠"__name__":=by decide) (hd:(x == ("__debug__":Str))=false:=by decide):wpAny (model X.prog X.w) X.A (eval (.Name x pos) X.env) Q E s:=by
 obtain⟨mb,h1,h2⟩:=I.mod.blt
 exact Calls.Name_function_global I.ok.kind hg (Calls.loadGlobal_builtin (by rw[I.ok.glob];exact I.mod.glob.keeps I.bk) hm (by rw[I.ok.blt];exact h1.keeps I.bk) ((h2 x hn).trans hv) h) hd
theorem j12 {x:Str}{v:V}{u:Value}{pos:Pos} (hg:Gl X x) (hm:X.mg x=some u) (r:RelV v u) (hd:(x == ("__debug__":Str))=false:=by decide):PE X (.Name x pos) (tC v) :=
 fun _ _ _ H _ I h=>j8p I hg hm ⟨v,H,I,r,h⟩ hd
theorem j1b {x:Str}{v:V}{u:Value}{pos:Pos} (hg:Gl X x) (hm:X.mg x=none) (hv:bootBuiltins x=some u) (r:RelV v u) (hn:x≠"__name__":=by decide) (hd:(x == ("__debug__":Str))=false:=by decide):PE X (.Name x pos) (tC v) :=
 fun _ _ _ H _ I h=>j6b I hg hm hv ⟨v,H,I,r,h⟩ hn hd
variable {a b:Expr}{ta tb:TE}{pos:Pos}
variable {tA tB':TT}{rest:List Expr}
def tAnd (t u:TT):TT:=fun σ H Q=>t σ H fun c H1=>if c=true then u σ H1 Q else Q false H1
def tOr (t u:TT):TT:=fun σ H Q=>t σ H fun c H1=>if c=true then Q true H1 else u σ H1 Q
def tNot (t:TT):TT:=fun σ H Q=>t σ H fun c H1=>Q (!c) H1
theorem jbc (ha:PT X a tA):PW X (.BoolOp .And [a] pos) tA:=by
 intro wh pins s σ H Q I h
 refine isTrue_and (thn (ha pins s σ H Q I h) fun c s1 e=>?_)
 cases c with
 | true=>exact isTrue_and_nil e
 | false=>exact e
theorem j1k (ha:PT X a tA):PW X (.BoolOp .Or [a] pos) tA:=by
 intro wh pins s σ H Q I h
 refine isTrue_or (thn (ha pins s σ H Q I h) fun c s1 e=>?_)
 cases c with
 | false=>exact isTrue_or_nil e
 | true=>exact e
theorem jda (ha:PT X a tA) (hb:PW X (.BoolOp .And (b :: rest) pos) tB'):PW X (.BoolOp .And (a :: b :: rest) pos) (tAnd tA tB'):=by
 intro wh pins s σ H Q I h
 refine isTrue_and (thn (ha pins s σ H _ I h) fun c s1 ⟨H1,I1,q1⟩=>?_)
 cases c with
 | true=>exact hb wh pins s1 σ H1 Q I1 q1
 | false=>exact⟨H1,I1,q1⟩
theorem j34 (ha:PT X a tA) (hb:PW X (.BoolOp .Or (b :: rest) pos) tB'):PW X (.BoolOp .Or (a :: b :: rest) pos) (tOr tA tB'):=by
 intro wh pins s σ H Q I h
 refine isTrue_or (thn (ha pins s σ H _ I h) fun c s1 ⟨H1,I1,q1⟩=>?_)
 cases c with
 | true=>exact⟨H1,I1,q1⟩
 | false=>exact hb wh pins s1 σ H1 Q I1 q1
theorem j0s (ha:PT X a tA):PT X (.UnaryOp .Not a pos) (tNot tA):=by
 intro pins s σ H Q I h
 exact isTrue_not (ha pins s σ H (fun c H1=>Q (!c) H1) I h)
def tAndV (ta tb:TE):TE:=fun σ H Q=>ta σ H fun x H1=>∃ c,x=.bl c∧if c=true then tb σ H1 Q else Q (.bl false) H1
def tOrV (ta tb:TE):TE:=fun σ H Q=>ta σ H fun x H1=>∃ c,x=.bl c∧if c=true then Q (.bl true) H1 else tb σ H1 Q
def tNotV (ta:TE):TE:=fun σ H Q=>ta σ H fun x H1=>∃ c,x=.bl c∧Q (.bl (!c)) H1
theorem j1y {op}{t:TE} (h:PE X a t):PE X (.BoolOp op [a] pos) t:=fun pins s σ H Q I hw=>BoolOp_one (h pins s σ H Q I hw)
theorem j1t (ha:PE X a ta) (hb:PE X (.BoolOp .And (b :: rest) pos) tb):PE X (.BoolOp .And (a :: b :: rest) pos) (tAndV ta tb):=by
 intro pins s σ H Q I h
 refine BoolOp_and (thn (ha pins s σ H _ I h) fun v s1 ⟨x,H1,I1,r1,q1⟩=>?_)
 obtain⟨c,rfl,q1⟩:=q1
 cases r1
 refine wpAny_truthy_bool ?_
 cases c with
 | true=>exact hb pins s1 σ H1 Q I1 q1
 | false=>exact⟨.bl false,H1,I1,rfl,q1⟩
theorem pe_or (ha:PE X a ta) (hb:PE X (.BoolOp .Or (b :: rest) pos) tb):PE X (.BoolOp .Or (a :: b :: rest) pos) (tOrV ta tb):=by
 intro pins s σ H Q I h
 refine BoolOp_or (thn (ha pins s σ H _ I h) fun v s1 ⟨x,H1,I1,r1,q1⟩=>?_)
 obtain⟨c,rfl,q1⟩:=q1
 cases r1
 refine wpAny_truthy_bool ?_
 cases c with
 | false=>exact hb pins s1 σ H1 Q I1 q1
 | true=>exact⟨.bl true,H1,I1,rfl,q1⟩
theorem jdb (ha:PE X a ta):PE X (.UnaryOp .Not a pos) (tNotV ta):=by
 intro pins s σ H Q I h
 refine UnaryOp_ (thn (ha pins s σ H _ I h) fun v s1 ⟨x,H1,I1,r1,q1⟩=>?_)
 obtain⟨c,rfl,q1⟩:=q1
 cases r1
 exact not_of (wpAny_truthy_bool ⟨.bl (!c),H1,I1,rfl,q1⟩)
def tIf (t:TT) (ta tb:TE):TE:=fun σ H Q=>t σ H fun c H1=>if c=true then ta σ H1 Q else tb σ H1 Q
theorem j2o {c:Expr} (hc:PT X c tA) (ha:PE X a ta) (hb:PE X b tb):PE X (.IfExp c a b pos) (tIf tA ta tb):=by
 intro pins s σ H Q I h
 refine wpAny_IfExp (thn (hc pins s σ H _ I h) fun d s1 ⟨H1,I1,q1⟩=>?_)
 cases d with
 | true=>exact ha pins s1 σ H1 Q I1 q1
 | false=>exact hb pins s1 σ H1 Q I1 q1
end
def SqL (K:PySem.W.Frag) (H:Hp) (a:Addr) (xs:List V):Prop :=
 Rd H a (.lst xs) ∨
  ∃ (o:Obj) (its:Array Value) (n:Nat),K.lookup a=some o∧o.cls=.type "list"∧o.dict=none∧o.data=.seq its n∧its.size≤sizeLine∧Vals xs its.toList
def SqT (K:PySem.W.Frag) (H:Hp) (a:Addr) (xs:List V):Prop :=
 Rd H a (.tup xs) ∨
  ∃ (o:Obj) (its:Array Value) (n:Nat),K.lookup a=some o∧o.cls=.type "tuple"∧o.data=.seq its n∧its.size≤sizeLine∧Vals xs its.toList
def absV:Value→Option V
 | .none=>some .non
 | .bool b=>some (.bl b)
 | .int i _=>some (.int i)
 | .str x _=>some (.str x)
 | .bytes b _=>some (.byt b)
 | .float b _=>some (.flt b)
 | .ref a=>some (.ref a)
 | .type n=>some (.ty n)
 | _=>none
theorem RelV.abs {x:V}{u:Value} (r:RelV x u):absV u=some x:=by
 cases x with
 | non=>cases r;rfl
 | bl _=>cases r;rfl
 | int _=>obtain⟨t,rfl⟩:=r;rfl
 | str _=>obtain⟨t,rfl⟩:=r;rfl
 | byt _=>obtain⟨t,rfl⟩:=r;rfl
 | flt _=>obtain⟨t,rfl⟩:=r;rfl
 | ref _=>cases r;rfl
 | ty _=>cases r;rfl
theorem RelV.inj {x y:V}{u:Value} (r:RelV x u) (q:RelV y u):x=y:=Option.some.inj (r.abs.symm.trans q.abs)
theorem Vals.inj:∀ {xs ys:List V}{us:List Value},Vals xs us→Vals ys us→xs=ys
 | _,_,_,.nil,.nil=>rfl
 | _,_,_,.cons r t,.cons r' t'=>by rw[r.inj r',Vals.inj t t']
section
variable {X:Cx}{pins:List (Addr × Obj)}{σ:St}{H:Hp}{s:Shared}{a:Addr}{xs ys:List V}
theorem SqL.of {K:PySem.W.Frag} (h:H a=some (.lst xs)):SqL K H a xs:=.inl (.inl h)
theorem SqT.of {K:PySem.W.Frag} (h:H a=some (.tup xs)):SqT K H a xs:=.inl (.inl h)
theorem Inv.list (I:Inv X pins σ H s) (h:SqL X.K H a xs):∃ its:List Value,Vals xs its∧PlainL s.heap a its.toArray∧xs.length≤sizeLine:=by
 rcases h with h | ⟨o,its,n,hk,hc,hd,hs,hz,r⟩
 ·obtain⟨z,its,n,r,e⟩:=h.ok I.hok
  exact⟨its,r,⟨_,n,e,rfl,rfl,rfl⟩,z⟩
 ·refine⟨its.toList,r,⟨o,n,I.kIn a o hk,hc,hd,by simpa using hs⟩,?_⟩
  have e:=r.length
  simp only[Array.length_toList] at e
  omega
theorem Inv.tuple (I:Inv X pins σ H s) (h:SqT X.K H a xs):∃ its:List Value,Vals xs its∧IsTup s.heap a its.toArray∧xs.length≤sizeLine:=by
 rcases h with h | ⟨o,its,n,hk,hc,hs,hz,r⟩
 ·obtain⟨z,its,r,p⟩:=h.ok I.hok
  exact⟨its,r,p.1,z⟩
 ·refine⟨its.toList,r,⟨o,I.kIn a o hk,hc,n,by simpa using hs⟩,?_⟩
  have e:=r.length
  simp only[Array.length_toList] at e
  omega
theorem Inv.list_inj (I:Inv X pins σ H s) (h:SqL X.K H a xs) (h':SqL X.K H a ys):xs=ys:=by
 obtain⟨its,r,⟨o,n,e,_,_,d⟩,_⟩:=I.list h
 obtain⟨its',r',⟨o',n',e',_,_,d'⟩,_⟩:=I.list h'
 rw[e] at e';cases e'
 rw[d] at d'
 injection d' with d1 _
 have:its=its':=by simpa using congrArg Array.toList d1
 subst this
 exact r.inj r'
theorem Inv.tuple_inj (I:Inv X pins σ H s) (h:SqT X.K H a xs) (h':SqT X.K H a ys):xs=ys:=by
 obtain⟨its,r,⟨o,e,_,n,d⟩,_⟩:=I.tuple h
 obtain⟨its',r',⟨o',e',_,n',d'⟩,_⟩:=I.tuple h'
 rw[e] at e';cases e'
 rw[d] at d'
 injection d' with d1 _
 have:its=its':=by simpa using congrArg Array.toList d1
 subst this
 exact r.inj r'
end
abbrev Cx.wish (X:Cx) (E:Value→Shared→Prop):Cx:={ X with xe:=E }
abbrev Cx.nox (X:Cx):Cx:=X.wish fun _ _=>False
theorem Cx.Ok.wish {X:Cx} (ok:X.Ok) (E:Value→Shared→Prop):(X.wish E).Ok :=
 ⟨ok.mod,ok.kind,ok.glob,ok.blt,ok.above,ok.inj,ok.has,ok.cab,ok.hd,ok.frames,ok.stk,ok.exf,ok.bs,ok.bsz,ok.noex,ok.exfs,ok.funs,ok.frf⟩
theorem Cx.Ok.unwish {X:Cx}{E:Value→Shared→Prop} (ok:(X.wish E).Ok):X.Ok :=
 ⟨ok.mod,ok.kind,ok.glob,ok.blt,ok.above,ok.inj,ok.has,ok.cab,ok.hd,ok.frames,ok.stk,ok.exf,ok.bs,ok.bsz,ok.noex,ok.exfs,ok.funs,ok.frf⟩
section
variable {X:Cx}{pins:List (Addr × Obj)}{σ:St}{H:Hp}{s:Shared}{E:Value→Shared→Prop}
theorem Inv.wish (I:Inv X pins σ H s) (E:Value→Shared→Prop):Inv (X.wish E) pins σ H s:=⟨I.ok.wish E,I.os,I.bare,I.base,I.loc,I.cell,I.free,I.freeC,I.pin,I.hok,I.len⟩
theorem Inv.unwish (I:Inv (X.wish E) pins σ H s):Inv X pins σ H s:=⟨I.ok.unwish,I.os,I.bare,I.base,I.loc,I.cell,I.free,I.freeC,I.pin,I.hok,I.len⟩
theorem SP.unwish {D:Ends}{f:Flow}{s':Shared} (h:SP (X.wish E) pins D f s'):SP X pins D f s':=by
 cases f with
 | next=>obtain⟨σ',H',I,q⟩:=h;exact⟨σ',H',I.unwish,q⟩
 | brk=>obtain⟨σ',H',I,q⟩:=h;exact⟨σ',H',I.unwish,q⟩
 | cont=>obtain⟨σ',H',I,q⟩:=h;exact⟨σ',H',I.unwish,q⟩
 | ret u=>obtain⟨v,σ',H',I,r,q⟩:=h;exact⟨v,σ',H',I.unwish,r,q⟩
theorem PSs.nox {st:List Stmt}{t:TS} (h:PSs X.nox st t):PSs X st t:=fun pins s σ H D I hw =>
 wpAny_mono (h pins s σ H D (I.wish _) hw) (fun _ _ q=>q.unwish) fun _ _ z=>False.elim z
end
section
variable {X:Cx}{st:Stmt}{rest:List Stmt}{t u:TS}{e:Expr}{te:TE}{pos:Pos}
def jfl:TS:=fun D σ H=>D.nx σ H
def tSeq (t u:TS):TS:=fun D σ H=>t { D with nx:=u D } σ H
theorem j0c:PSs X [] jfl:=fun _ _ σ H _ I h=>wpAny_execs_nil ⟨σ,H,I,h⟩
theorem j02 (h1:PS X st t) (h2:PSs X rest u):PSs X (st :: rest) (tSeq t u):=by
 intro pins s σ H D I h
 refine wpAny_execs_cons (thn (h1 pins s σ H { D with nx:=u D } I h) fun f s1 q=>?_)
 cases f with
 | next =>
  obtain⟨σ',H',I',q⟩:=q
  exact h2 pins s1 σ' H' D I' q
 | ret v=>exact q
 | brk=>exact q
 | cont=>exact q
theorem j03 (h1:PS X st t):PSs X [st] t:=by
 intro pins s σ H D I h
 refine wpAny_execs_cons (thn (h1 pins s σ H D I h) fun f s1 q=>?_)
 cases f with
 | next=>exact wpAny_execs_nil q
 | ret v=>exact q
 | brk=>exact q
 | cont=>exact q
theorem jdc:PS X (.Pass pos) jfl:=fun _ _ σ H _ I h=>wpAny_Pass ⟨σ,H,I,h⟩
theorem Inv.quiet {pins:List (Addr × Obj)}{σ:St}{H:Hp}{s:Shared} (I:Inv X pins σ H s):interactive X.env=false:=by simp[interactive,I.ok.kind]
def tDrop (te:TE):TS:=fun D σ H=>te σ H fun _ H1=>D.nx σ H1
theorem j1l (he:PE X e te) (hs:swapsWith e none pos.line X.env=pure false:=by rfl):PS X (.Expr e pos) (tDrop te):=by
 intro pins s σ H D I h
 exact wpAny_Expr_any (thn (he pins s σ H _ I h) fun v s1 ⟨x,H1,I1,r1,q1⟩=>⟨σ,H1,I1,q1⟩) I.quiet hs
def tRet (te:TE):TS:=fun D σ H=>te σ H D.rt
theorem j0a (he:PE X e te):PS X (.Return (some e) pos) (tRet te):=by
 intro pins s σ H D I h
 exact wpAny_Return_some (thn (he pins s σ H _ I h) fun v s1 ⟨x,H1,I1,r1,q1⟩=>⟨x,σ,H1,I1,r1,q1⟩)
def tIfS (c:TT) (t u:TS):TS:=fun D σ H=>c σ H fun b H1=>if b=true then t D σ H1 else u D σ H1
theorem j0u {c:Expr}{a b:List Stmt}{tc:TT} (hc:PT X c tc) (ha:PSs X a t) (hb:PSs X b u):PS X (.If c a b pos) (tIfS tc t u):=by
 intro pins s σ H D I h
 refine wpAny_If (thn (hc pins s σ H _ I h) fun d s1 ⟨H1,I1,q1⟩=>?_)
 cases d with
 | true=>exact ha pins s1 σ H1 D I1 q1
 | false=>exact hb pins s1 σ H1 D I1 q1
def tNever:TS:=fun _ _ _=>False
theorem j11:PS X st tNever:=fun _ _ _ _ _ _ h=>h.elim
end
abbrev TG:=V→St→Hp→(St→Hp→Prop)→Prop
abbrev TGs:=List V→St→Hp→(St→Hp→Prop)→Prop
def PG (X:Cx) (target:Expr) (t:TG):Prop :=
 ∀ (pins:List (Addr × Obj)) (s:Shared) (σ:St) (H:Hp) (v:V) (u:Value) (Q:St→Hp→Prop),Inv X pins σ H s→RelV v u→t v σ H Q →
  wpAny (model X.prog X.w) X.A (assign target X.env u) (fun _ s'=>∃ σ' H',Inv X pins σ' H' s'∧Q σ' H') X.xe s
def PGs (X:Cx) (ts:List Expr) (t:TGs):Prop :=
 ∀ (pins:List (Addr × Obj)) (s:Shared) (σ:St) (H:Hp) (vs:List V) (us:List Value) (Q:St→Hp→Prop),Inv X pins σ H s→Vals vs us→t vs σ H Q →
  wpAny (model X.prog X.w) X.A (assignInOrder ((assignEach ts X.env).map (·.2)) us) (fun _ s'=>∃ σ' H',Inv X pins σ' H' s'∧Q σ' H') X.xe s
abbrev TSet:=V→V→V→Hp→(Hp→Prop)→Prop
def PSet (X:Cx) (t:TSet):Prop :=
 ∀ (pins:List (Addr × Obj)) (s:Shared) (σ:St) (H:Hp) (o i v:V) (ov iv u:Value) (Q:Hp→Prop),Inv X pins σ H s→RelV o ov→RelV i iv→RelV v u→t o i v H Q →
  wpAny (model X.prog X.w) X.A (setItem ov iv u) (fun _ s'=>∃ H',Inv X pins σ H' s'∧Q H') X.xe s
section
variable {X:Cx}{pos:Pos}
def j68 (i:Nat):TG:=fun v σ H Q=>Q (σ.set i (some v)) H
theorem j0w {i:Nat}{x:Str} (hN:X.N.Nodup) (hi:X.N[i]?=some x) (hx:Loc X.env.scope x) (hf:X.fn x=true∨X.env.scope.names.lookup x=some .local:=by first | exact .inl rfl | exact .inr rfl | assumption):PG X (.Name x pos) (j68 i):=by
 intro pins s σ H v u Q I r h
 exact wpAny_assign_Name (j6a I hN hi hx r (fun s' I'=>⟨_,H,I',h⟩) hf)
def gNil:TGs:=fun vs σ H Q=>vs=[]∧Q σ H
def jd4 (t:TG) (u:TGs):TGs:=fun vs σ H Q=>∃ v r,vs=v :: r∧t v σ H fun σ' H'=>u r σ' H' Q
theorem j79:PGs X [] gNil:=by
 intro pins s σ H vs us Q I r h
 obtain⟨e,h⟩:=h
 subst e
 cases r
 exact assignInOrder_nil ⟨σ,H,I,h⟩
theorem j1z {e:Expr}{es:List Expr}{t:TG}{u:TGs} (h1:PG X e t) (h2:PGs X es u)
  (hs:(assignEach (e :: es) X.env).map (·.2)=assign e X.env :: (assignEach es X.env).map (·.2):=by rfl):PGs X (e :: es) (jd4 t u):=by
 intro pins s σ H vs us Q I r h
 obtain⟨v,vr,e1,h⟩:=h
 subst e1
 cases r with
 | cons r rr =>
  rw[hs]
  refine assignInOrder_cons (thn (h1 pins s σ H _ _ _ I r h) fun _ s1 ⟨σ1,H1,I1,q1⟩=>?_)
  exact h2 pins s1 σ1 H1 _ _ Q I1 rr q1
def gTup (K:PySem.W.Frag) (n:Nat) (t:TGs):TG:=fun v σ H Q=>∃ a xs,v=.ref a∧SqT K H a xs∧xs.length=n∧t xs σ H Q
theorem ja7 {es:List Expr}{k:Nat}{t:TGs}{n:Nat} (hc:X.calm=true) (h:PGs X es t)
  (hn:(assignEach es X.env).length=n:=by rfl) (hst:(assignEach es X.env).findIdx? (·.1)=none:=by rfl):PG X (.Tuple es k pos) (gTup X.K n t):=by
 intro pins s σ H v u Q I r hw
 obtain⟨a,xs,e1,hq,hl,hw⟩:=hw
 subst e1
 cases r
 obtain⟨its,rv,ht,hz⟩:=I.tuple hq
 refine assign_Tuple_tuple (I.ok.hd hc) ht (by simp[hn,← hl,rv.length]) hst fun h' hx=>?_
 have I1:Inv X pins σ H { s with heap:=h' }:=I.kept (t':=s.toks) fun b o e=>hx b o (Nat.ne_of_lt (Heap.lt_size e)) e
 exact h pins _ σ H xs _ Q I1 (by simpa using rv) hw
def gSub (to ti:TE) (t:TSet):TG:=fun v σ H Q=>to σ H fun o H1=>ti σ H1 fun i H2=>t o i v H2 fun H3=>Q σ H3
theorem ja8 {o i:Expr}{to ti:TE}{t:TSet} (ho:PE X o to) (hi:PE X i ti) (hs:PSet X t)
  (ha:∀ v,assign (.Subscript o i pos) X.env v=(do
   let ov ← holding [v] (eval o X.env)
   let iv ← holding [v,ov] (eval i X.env)
   standAt pos
   holding [v,ov,iv] (setItem ov iv v)
   release [v,ov,iv] []):=by intro _;rfl):PG X (.Subscript o i pos) (gSub to ti t):=by
 intro pins s σ H v u Q I r h
 rw[ha]
 refine wpAny_bind (wpAny_holding (thn (ho pins s σ H _ I h) fun ov s1 ⟨x,H1,I1,r1,q1⟩=>?_))
 refine wpAny_bind (wpAny_holding (thn (hi pins s1 σ H1 _ I1 q1) fun iv s2 ⟨y,H2,I2,r2,q2⟩=>?_))
 refine wpAny_bind (wpAny_standAt (wpAny_bind (wpAny_holding (thn (hs pins s2 σ H2 x y v ov iv u _ I2 r1 r2 r q2) fun _ s3 ⟨H3,I3,q3⟩=>?_))))
 exact wpAny_release ⟨σ,H3,I3,q3⟩
def tAsg (te:TE) (g:TG):TS:=fun D σ H=>te σ H fun x H1=>g x σ H1 D.nx
theorem j8q {tg e:Expr}{te:TE}{g:TG} (he:PE X e te) (hg:PG X tg g) (hs:swapsWithSole [tg] e pos.line X.env=pure false:=by rfl) (hw:swappedStores [tg] e X.env=pure none:=by rfl)
  (h1:(assignEach [tg] X.env).map (·.2)=[assign tg X.env]:=by rfl):PS X (.Assign [tg] e pos) (tAsg te g):=by
 intro pins s σ H D I h
 refine wpAny_Assign_stores (thn (he pins s σ H _ I h) fun v s1 ⟨x,H1,I1,r1,q1⟩=>?_) hs hw
 rw[h1]
 exact thn (hg pins s1 σ H1 x v _ I1 r1 q1) fun _ s2 q=>q
theorem j0z {i:Nat}{x:Str}{e:Expr}{te:TE}{pos':Pos} (hN:X.N.Nodup) (hi:X.N[i]?=some x) (hx:Loc X.env.scope x) (he:PE X e te) (hs:swapsWith e (some (.Name x pos')) pos.line X.env=pure false:=by rfl) (hf:X.fn x=true∨X.env.scope.names.lookup x=some .local:=by first | exact .inl rfl | exact .inr rfl | assumption) :
  PS X (.Assign [.Name x pos'] e pos) (tAsg te (j68 i)):=by
 intro pins s σ H D I h
 refine wpAny_Assign_Name (thn (he pins s σ H _ I h) fun v s1 ⟨y,H1,I1,r1,q1⟩=>?_) hs
 exact j6a I1 hN hi hx r1 (fun s2 I2=>⟨_,H1,I2,q1⟩) hf
end
structure It where
 go:Nat→Hp→Prop
 yld:Nat→Hp→V→Hp→Prop
 stop:Nat→Hp→Prop
def FpOk (X:Cx) (pins:List (Addr × Obj)) (H:Hp) (b:Addr):Prop :=
 H b=none∧b≠X.env.locals∧b∉X.fs∧(b∈X.ex∨X.s₀.heap.objs.size≤b)∧(∀ x c,X.env.cells.lookup x=some c→c≠b)∧∀ p∈X.pn++pins,p.1≠b
theorem Inv.fpOk {X:Cx}{pins:List (Addr × Obj)}{σ:St}{H H':Hp}{s:Shared}{b:Addr} (I:Inv X pins σ H s) (hb:s.heap.objs.size≤b) (hn:H' b=none):FpOk X pins H' b:=by
 refine⟨hn,Nat.ne_of_gt (Nat.lt_of_lt_of_le I.lt hb),I.nofs hb,.inr (Nat.le_trans I.sz hb),fun x c e z=>?_,fun p hp z=>?_⟩
 ·obtain⟨v,q⟩:=I.cell x c e
  exact absurd (Nat.lt_of_lt_of_le q.lt (by rw[z];exact hb)) (Nat.lt_irrefl _)
 ·exact absurd (Nat.lt_of_lt_of_le (Heap.lt_size (I.pin p hp).1) (by rw[z];exact hb)) (Nat.lt_irrefl _)
structure Turn (P:Program) (w:World) (K:PySem.W.Frag) (tg:Expr) (J:It) (fp:List Addr) (it:Addr) (tn:Nat→Heap→Prop):Prop where
 mem:it∈fp
 obj:∀ i h,tn i h→∀ b∈fp,∃ o,h.get? b=some o∧∀ v,o.data≠.cell v
 keep:∀ i h h',tn i h→(∀ b∈fp,∀ o,h.get? b=some o→h'.get? b=some o)→tn i h'
 item:∀ (X:Cx),X.prog=P→X.w=w→X.K=K→X.calm=true→∀ (i:Nat) (pins:List (Addr × Obj)) (s:Shared) (σ:St) (H:Hp) (E:Value→Shared→Prop),Inv X pins σ H s→(∀ b∈fp,FpOk X pins H b)→tn i s.heap→J.go i H →
  wpAny (model P w) X.A (pyNext (.ref it)) (fun r s1=>∃ u,r=some u ∧
   wpAny (model P w) X.A (letOwnedTupleGo tg (.ref it) u) (fun _ s2=>∃ x H',Inv X pins σ H' s2∧RelV x u∧J.yld i H x H'∧tn (i+1) s2.heap∧∀ b∈fp,H' b=none) E s1) E s
 done:∀ (X:Cx),X.prog=P→X.w=w→X.K=K→X.calm=true→∀ (i:Nat) (pins:List (Addr × Obj)) (s:Shared) (σ:St) (H:Hp) (E:Value→Shared→Prop),Inv X pins σ H s→(∀ b∈fp,FpOk X pins H b)→tn i s.heap→J.stop i H →
  wpAny (model P w) X.A (pyNext (.ref it)) (fun r s1=>r=none∧Inv X pins σ H s1) E s
 self:∀ (A:Around) (i:Nat) (s:Shared) (Q:Value→Shared→Prop) (E:Value→Shared→Prop),tn i s.heap→Q (.ref it) s→wpAny (model P w) A (pyIter (.ref it)) Q E s
abbrev TI:=St→Hp→(It→Hp→Prop)→Prop
def PIE (X:Cx) (pins:List (Addr × Obj)) (σ:St) (tg:Expr) (R:It→Hp→Prop) (itv:Value) (s2:Shared):Prop :=
 ∃ (it:Addr) (fp:List Addr) (tn:Nat→Heap→Prop) (J:It) (H':Hp),itv=.ref it∧Inv X pins σ H' s2∧Turn X.prog X.w X.K tg J fp it tn∧tn 0 s2.heap∧(∀ b∈fp,FpOk X pins H' b)∧R J H'
def PI (X:Cx) (tg iter:Expr) (wi:TI):Prop :=
 ∀ (pins:List (Addr × Obj)) (s:Shared) (σ:St) (H:Hp) (R:It→Hp→Prop),Inv X pins σ H s→wi σ H R →
  wpAny (model X.prog X.w) X.A (eval iter X.env) (fun v s1=>wpAny (model X.prog X.w) X.A (pyIter v) (PIE X pins σ tg R) X.xe s1) X.xe s
theorem jfc {M:Model}{A:Around}{E:Value→Shared→Prop}{s:Shared}{tg:Expr}{it:Addr}{u:Value}{o:Obj}{n:String}{vs:Array Value}{Q:Unit→Shared→Prop} (ho:s.heap.get? it=some o) (hc:o.cls=.type n) (hd:o.data=.fields vs)
  (hn:["enumerate","zip","dict_itemiterator","dict_reverseitemiterator","odict_iterator","itertools.zip_longest","itertools.pairwise"].contains n=false) (hQ:Q () s):wpAny M A (letOwnedTupleGo tg (.ref it) u) Q E s:=by
 unfold letOwnedTupleGo
 cases tg <;> first
  | exact wpAny_pure hQ
  | (cases u <;> first
    | exact wpAny_pure hQ
    | (refine wpAny_bind (wpAny_load ho ?_)
       rw[hc,hd]
       show wpAny M A (if (["enumerate","zip","dict_itemiterator","dict_reverseitemiterator","odict_iterator","itertools.zip_longest","itertools.pairwise"].contains n && vs[0]? == some (rawInt _))=true then _ else _) Q E s
       rw[if_neg (by intro h;rw[hn,Bool.false_and] at h;cases h)]
       exact wpAny_pure hQ))
def Itl (K:PySem.W.Frag) (a:Addr):It :=
 ⟨fun i H=>∃ xs x,SqL K H a xs∧xs[i]?=some x,fun i H x H'=>H'=H∧∀ xs,SqL K H a xs→xs[i]?=some x,fun i H=>∃ xs,SqL K H a xs∧xs.length≤i⟩
def Itt (K:PySem.W.Frag) (a:Addr):It :=
 ⟨fun i H=>∃ xs x,SqT K H a xs∧xs[i]?=some x,fun i H x H'=>H'=H∧∀ xs,SqT K H a xs→xs[i]?=some x,fun i H=>∃ xs,SqT K H a xs∧xs.length≤i⟩
def Itr (lo:Int) (n:Nat):It:=⟨fun i _=>i < n,fun i H x H'=>H'=H∧x=.int (lo+i),fun i _=>n≤i⟩
theorem ja9 {P:Program}{w:World}{K:PySem.W.Frag}{tg:Expr} (a it:Addr):Turn P w K tg (Itl K a) [it] it (fun i h=>h.IsListIter it a i) where
 mem:=by simp
 obj:=fun i h st b hb=>by
  have e:b=it:=by simpa using hb
  subst e
  obtain⟨o,e,c,d⟩:=st
  exact⟨o,e,fun v z=>by rw[d] at z;cases z⟩
 keep:=fun i h h' st k=>st.at fun o e=>k it (by simp) o e
 item:=by
  intro X hP hw hK hc i pins s σ H E I hf st hg
  subst hP hw hK
  obtain⟨xs,x,hq,hx⟩:=hg
  obtain⟨its,rv,p,hz⟩:=I.list hq
  obtain⟨u,hu,ru⟩:=rv.get hx
  obtain⟨f0,f1,f2,f3,f4,f5⟩:=hf it (by simp)
  refine wpAny_pyNext_list_item st p.isList (x:=u) (by simpa using hu) fun h' st' sb=>?_
  have I1:Inv X pins σ H { s with heap:=h' }:=I.turned (t':=s.toks) (fun b o hb e=>(sb.2 b hb).trans e) f0 f1 f3 f4 f5
  obtain⟨o,e,c,d⟩:=id st'
  exact⟨u,rfl,jfc (s:={ s with heap:=h' }) e c d (by decide) ⟨x,H,I1,ru,⟨rfl,fun ys hy=>by rw[I.list_inj hy hq];exact hx⟩,st',fun b hb=>(hf b hb).1⟩⟩
 done:=by
  intro X hP hw hK hc i pins s σ H E I hf st hg
  subst hP hw hK
  obtain⟨xs,hq,hx⟩:=hg
  obtain⟨its,rv,p,hz⟩:=I.list hq
  obtain⟨f0,f1,f2,f3,f4,f5⟩:=hf it (by simp)
  have hl:=rv.length
  exact wpAny_pyNext_list_end (I.ok.hd hc) st p.isList (by simp;omega) fun h' eb=>⟨rfl,I.turned (t':=s.toks) (fun b o hb e=>eb b o hb e) f0 f1 f3 f4 f5⟩
 self:=fun _ _ _ _ _ st h=>wpAny_pyIter_listiter st h
theorem j8r {P:Program}{w:World}{K:PySem.W.Frag}{tg:Expr} (a it:Addr):Turn P w K tg (Itt K a) [it] it (fun i h=>h.IsTupleIter it a i) where
 mem:=by simp
 obj:=fun i h st b hb=>by
  have e:b=it:=by simpa using hb
  subst e
  obtain⟨o,e,c,d⟩:=st
  exact⟨o,e,fun v z=>by rw[d] at z;cases z⟩
 keep:=fun i h h' st k=>st.at fun o e=>k it (by simp) o e
 item:=by
  intro X hP hw hK hc i pins s σ H E I hf st hg
  subst hP hw hK
  obtain⟨xs,x,hq,hx⟩:=hg
  obtain⟨its,rv,p,hz⟩:=I.tuple hq
  obtain⟨u,hu,ru⟩:=rv.get hx
  obtain⟨f0,f1,f2,f3,f4,f5⟩:=hf it (by simp)
  refine wpAny_pyNext_tuple_item st (show s.heap.IsTuple a its.toArray from p) (x:=u) (by simpa using hu) fun h' st' sb=>?_
  have I1:Inv X pins σ H { s with heap:=h' }:=I.turned (t':=s.toks) (fun b o hb e=>(sb.2 b hb).trans e) f0 f1 f3 f4 f5
  obtain⟨o,e,c,d⟩:=id st'
  exact⟨u,rfl,jfc (s:={ s with heap:=h' }) e c d (by decide) ⟨x,H,I1,ru,⟨rfl,fun ys hy=>by rw[I.tuple_inj hy hq];exact hx⟩,st',fun b hb=>(hf b hb).1⟩⟩
 done:=by
  intro X hP hw hK hc i pins s σ H E I hf st hg
  subst hP hw hK
  obtain⟨xs,hq,hx⟩:=hg
  obtain⟨its,rv,p,hz⟩:=I.tuple hq
  obtain⟨f0,f1,f2,f3,f4,f5⟩:=hf it (by simp)
  have hl:=rv.length
  exact wpAny_pyNext_tuple_end (I.ok.hd hc) st (show s.heap.IsTuple a its.toArray from p) (by simp;omega) fun h' eb=>⟨rfl,I.turned (t':=s.toks) (fun b o hb e=>eb b o hb e) f0 f1 f3 f4 f5⟩
 self:=fun _ _ _ _ _ st h=>wpAny_pyIter_tupleiter st h
theorem j8s {P:Program}{w:World}{K:PySem.W.Frag}{tg:Expr} (it:Addr) (lo:Int) (n:Nat):Turn P w K tg (Itr lo n) [it] it (fun i h=>IsRangeIter h it (lo+(i:Nat) * 1) ((n:Int)-(i:Nat)) 1) where
 mem:=by simp
 obj:=fun i h st b hb=>by
  have e:b=it:=by simpa using hb
  subst e
  exact⟨_,st,fun v z=>by
   have z':Data.fields _=Data.cell v:=z
   cases z'⟩
 keep:=fun i h h' st k=>k it (by simp) _ st
 item:=by
  intro X hP hw hK hc i pins s σ H E I hf st hg
  subst hP hw hK
  obtain⟨f0,f1,f2,f3,f4,f5⟩:=hf it (by simp)
  have W:=Walks.range (prog:=X.prog) (w:=X.w) (I.ok.hd hc) it lo 1 n
  refine W.item i s _ _ hg st fun v h' tk hv st' kk=>?_
  obtain⟨t,rfl⟩:=hv
  have I1:Inv X pins σ H { s with heap:=h',toks:=tk }:=I.turned (fun b o hb e=>kk b o (by simpa using hb) e) f0 f1 f3 f4 f5
  refine⟨_,rfl,jfc (s:={ s with heap:=h',toks:=tk }) (n:="range_iterator") st' rfl rfl (by decide) ⟨.int (lo+i),H,I1,⟨t,?_⟩,⟨rfl,rfl⟩,st',fun b hb=>(hf b hb).1⟩⟩
  rw[Int.mul_one]
 done:=by
  intro X hP hw hK hc i pins s σ H E I hf st hg
  subst hP hw hK
  obtain⟨f0,f1,f2,f3,f4,f5⟩:=hf it (by simp)
  exact wpAny_pyNext_range_end (I.ok.hd hc) st (by have:n≤i:=hg;omega) fun h' eb=>⟨rfl,I.turned (t':=s.toks) (fun b o hb e=>eb b o hb e) f0 f1 f3 f4 f5⟩
 self:=fun _ _ _ _ _ st h=>wpAny_pyIter_rangeiter st h
section
variable {X:Cx}{tg:Expr}
def iList (K:PySem.W.Frag) (tl:TE):TI:=fun σ H R=>tl σ H fun x H1=>∃ a,x=.ref a∧(∃ xs,SqL K H1 a xs)∧R (Itl K a) H1
def iTup (K:PySem.W.Frag) (tl:TE):TI:=fun σ H R=>tl σ H fun x H1=>∃ a,x=.ref a∧(∃ xs,SqT K H1 a xs)∧R (Itt K a) H1
theorem j8t {l:Expr}{tl:TE} (hl:PE X l tl):PI X tg l (iList X.K tl):=by
 intro pins s σ H R I h
 refine thn (hl pins s σ H _ I h) fun v s1 ⟨x,H1,I1,r1,q1⟩=>?_
 obtain⟨a,e,⟨xs,hq⟩,q⟩:=q1
 subst e
 cases r1
 obtain⟨its,rv,p,hz⟩:=I1.list hq
 refine wpAny_pyIter_list p.isList ?_
 refine⟨s1.heap.objs.size,[s1.heap.objs.size],_,_,H1,rfl,I1.kept (t':=s1.toks) fun b o e=>Heap.get?_push_of_some _ e,ja9 a _,⟨_,Heap.get?_push_size _ rfl,rfl,rfl⟩,fun b hb=>?_,q⟩
 have e:b=s1.heap.objs.size:=by simpa using hb
 subst e
 exact I1.fpOk (Nat.le_refl _) (I1.hok.fresh (Nat.le_refl _))
theorem j4y {l:Expr}{tl:TE} (hl:PE X l tl):PI X tg l (iTup X.K tl):=by
 intro pins s σ H R I h
 refine thn (hl pins s σ H _ I h) fun v s1 ⟨x,H1,I1,r1,q1⟩=>?_
 obtain⟨a,e,⟨xs,hq⟩,q⟩:=q1
 subst e
 cases r1
 obtain⟨its,rv,p,hz⟩:=I1.tuple hq
 refine wpAny_pyIter_tuple (show s1.heap.IsTuple a its.toArray from p) ?_
 refine⟨s1.heap.objs.size,[s1.heap.objs.size],_,_,H1,rfl,I1.kept (t':=s1.toks) fun b o e=>Heap.get?_push_of_some _ e,j8r a _,⟨_,Heap.get?_push_size _ rfl,rfl,rfl⟩,fun b hb=>?_,q⟩
 have e:b=s1.heap.objs.size:=by simpa using hb
 subst e
 exact I1.fpOk (Nat.le_refl _) (I1.hok.fresh (Nat.le_refl _))
theorem jbz {pins:List (Addr × Obj)}{σ:St}{H:Hp}{s:Shared}{R:It→Hp→Prop}{E:Value→Shared→Prop}{lo hi:Int}{t u v:Tok}{tk:Nat} (I:Inv X pins σ H s) (h1:-(2 ^ 62)≤lo) (h2:lo < 2 ^ 62) (h3:-(2 ^ 62)≤hi) (h4:hi < 2 ^ 62)
  (q:R (Itr lo (hi-lo).toNat) H):wpAny (model X.prog X.w) X.A (pyIter (.ref s.heap.objs.size)) (PIE X pins σ tg R) E { s with heap:=s.heap.push { cls:=.type "range",data:=.fields #[.int lo t,.int hi u,.int 1 v] },toks:=tk }:=by
 refine wpAny_pyIter_range (IsRange.new ..) (small_one h1 h2 h3 h4) ?_
 have I1:Inv X pins σ H { s with heap:=s.heap.push { cls:=.type "range",data:=.fields #[.int lo t,.int hi u,.int 1 v] },toks:=tk }:=I.kept fun b o e=>Heap.get?_push_of_some _ e
 refine⟨(s.heap.push { cls:=.type "range",data:=.fields #[.int lo t,.int hi u,.int 1 v] }).objs.size,[(s.heap.push { cls:=.type "range",data:=.fields #[.int lo t,.int hi u,.int 1 v] }).objs.size],_,_,H,rfl,
  I1.kept (t':=tk) fun b o e=>Heap.get?_push_of_some _ e,j8s _ lo (hi-lo).toNat,?_,fun b hb=>?_,q⟩
 ·have e1:lo+((0:Nat):Int) * 1=lo:=by simp
  have e2:(((hi-lo).toNat:Nat):Int)-((0:Nat):Int)=Builtin.Range.rangeSize lo hi 1:=by rw[rangeSize_one];split <;> omega
  show IsRangeIter _ _ (lo+((0:Nat):Int) * 1) ((((hi-lo).toNat:Nat):Int)-((0:Nat):Int)) 1
  rw[e1,e2]
  exact Heap.get?_push_size _ rfl
 ·have e:b=(s.heap.push { cls:=.type "range",data:=.fields #[.int lo t,.int hi u,.int 1 v] }).objs.size:=by simpa using hb
  subst e
  exact I1.fpOk (Nat.le_refl _) (I1.hok.fresh (Nat.le_refl _))
def iRng1 (ta:TA):TI:=fun σ H R=>ta σ H fun vs H1=>∃ j:Int,vs=[.int j]∧-(2 ^ 62)≤j∧j < 2 ^ 62∧R (Itr 0 j.toNat) H1
theorem j1m {a:Expr}{ta:TA}{p pos:Pos} (hg:Gl X "range") (hm:X.mg "range"=none) (ha:PA X [a] ta) (hs:starEach [a] X.env=[(false,eval a X.env)]:=by rfl):PI X tg (.Call (.Name "range" p) [a] [] pos) (iRng1 ta):=by
 intro pins s σ H R I h
 refine Call_ (j6b I hg hm boot_range (PyProof.Rows.callWith_type1 (thn (ha pos pins s σ H _ I h) fun us s1 ⟨vs,H1,I1,r1,q1⟩=>?_) hs rfl))
 obtain⟨j,e,q1,q2,q⟩:=q1
 subst e
 cases r1 with
 | cons r rr =>
  cases rr
  obtain⟨t,rfl⟩:=r
  exact call_range_1 (jbz I1 (by omega) (by omega) q1 q2 (by simpa using q))
def tFor (wi:TI) (g:TG) (tb:TS):TS:=fun D σ H=>wi σ H fun J H1=>∃ W:Nat→Nat→St→Hp→Prop,(∃ m,W 0 m σ H1)∧∀ i m σ H,W i m σ H →
 (J.stop i H∧D.nx σ H)∨(J.go i H∧∃ N:St→Hp→Prop,(∀ σ' H',N σ' H'→∃ m',m' < m∧W (i+1) m' σ' H')∧∀ x H',J.yld i H x H'→g x σ H' fun σ2 H2=>tb { D with nx:=N,ct:=N,bk:=D.nx } σ2 H2)
def j8u (fp:List Addr) (h:Heap):List (Addr × Obj):=fp.filterMap fun b=>(h.get? b).map fun o=>(b,o)
theorem j2f {fp:List Addr}{h:Heap}{b:Addr}{o:Obj} (hb:b∈fp) (e:h.get? b=some o):(b,o)∈j8u fp h:=List.mem_filterMap.mpr ⟨b,hb,by rw[e];rfl⟩
theorem jaa {fp:List Addr}{h:Heap}{p:Addr × Obj} (hp:p∈j8u fp h):p.1∈fp∧h.get? p.1=some p.2:=by
 obtain⟨b,hb,e⟩:=List.mem_filterMap.mp hp
 cases q:h.get? b with
 | none=>rw[q] at e;cases e
 | some o =>
  rw[q] at e
  have e':(b,o)=p:=Option.some.inj e
  subst e'
  exact⟨hb,q⟩
theorem Inv.pinned {pins:List (Addr × Obj)}{σ:St}{H:Hp}{s:Shared}{fp:List Addr} (I:Inv X pins σ H s) (hf:∀ b∈fp,FpOk X pins H b) (ho:∀ b∈fp,∃ o,s.heap.get? b=some o∧∀ v,o.data≠.cell v):Inv X (pins++j8u fp s.heap) σ H s :=
 I.pins_of fun p hp=>(List.mem_append.mp hp).elim (fun z=>I.pin p (List.mem_append_right _ z)) fun z=>by
  obtain⟨hb,e⟩:=jaa z
  obtain⟨f0,f1,f2,_⟩:=hf p.1 hb
  obtain⟨o,e',d⟩:=ho p.1 hb
  rw[e] at e';cases e'
  exact⟨e,f0,f1,f2,d⟩
theorem Inv.unpinned {pins pl:List (Addr × Obj)}{σ:St}{H:Hp}{s:Shared} (I:Inv X (pins++pl) σ H s):Inv X pins σ H s:=I.pins_of fun p hp=>I.pin p (List.mem_append_right _ (List.mem_append_left _ hp))
theorem jab {iter:Expr}{body:List Stmt}{wi:TI}{g:TG}{tb:TS}{pos:Pos} (hp:PassesOwn (model X.prog X.w) X.A X.env X.xe) (hc:X.calm=true) (hi:PI X tg iter wi) (hg:PG X tg g) (hb:PSs X body tb)
  (hs:∀ x,foldedSetIterable iter X.env x=pure x:=by intro _;rfl):PS X (.For tg iter body [] pos) (tFor wi g tb):=by
 intro pins s σ H D I h
 refine wpAny_For (thn (hi pins s σ H _ I h) fun v s1 h1=>thn h1 fun itv s2 h2=>?_) hs
 obtain⟨it,fp,tn,J,H2,e,I2,T,st2,f2,W,⟨m0,w0⟩,turn⟩:=h2
 subst e
 have stat:∀ {H':Hp},(∀ b∈fp,H' b=none)→∀ b∈fp,FpOk X pins H' b:=fun hn b hb=>⟨hn b hb,(f2 b hb).2⟩
 refine codeAny_forLoop_any (fun n s'=>∃ i σ' H',Inv X pins σ' H' s'∧tn i s'.heap∧(∀ b∈fp,H' b=none)∧W i n σ' H') ?_ m0 ⟨0,σ,H2,I2,st2,fun b hb=>(f2 b hb).1,w0⟩
 rintro n s3 ⟨i,σ3,H3,I3,st3,fr3,w3⟩
 rcases turn i n σ3 H3 w3 with⟨stop,qn⟩ | ⟨go,N,hN,step⟩
 ·refine wpAny_passesOwn hp (thn (T.done X rfl rfl rfl hc i pins s3 σ3 H3 X.xe I3 (stat fr3) st3 stop) fun r s4 ⟨hr,I4⟩=>?_)
  subst hr
  exact wpAny_execs_nil ⟨σ3,H3,I4,qn⟩
 ·refine wpAny_passesOwn hp (thn (T.item X rfl rfl rfl hc i pins s3 σ3 H3 X.xe I3 (stat fr3) st3 go) fun r s4 ⟨u,hr,h4⟩=>?_)
  subst hr
  refine wpAny_passesOwn hp (thn h4 fun _ s5 ⟨x,H5,I5,r5,y5,st5,fr5⟩=>?_)
  have I5':=I5.pinned (stat fr5) (T.obj _ _ st5)
  refine wpAny_passesOwn hp (thn (hg _ s5 σ3 H5 x u _ I5' r5 (step x H5 y5)) fun _ s6 ⟨σ6,H6,I6,q6⟩=>?_)
  refine wpAny_passesOwn hp (thn (hb _ s6 σ6 H6 _ I6 q6) fun f s7 q7=>?_)
  have again:∀ {σ7:St}{H7:Hp},Inv X (pins++j8u fp s5.heap) σ7 H7 s7→N σ7 H7→∃ m,m < n∧∃ i σ' H',Inv X pins σ' H' s7∧tn i s7.heap∧(∀ b∈fp,H' b=none)∧W i m σ' H':=fun {σ7 H7} I7 n7=>by
   obtain⟨m',hm,w7⟩:=hN σ7 H7 n7
   refine⟨m',hm,i+1,σ7,H7,I7.unpinned,T.keep _ _ _ st5 fun b hb o e=>(I7.pin (b,o) (List.mem_append_right _ (List.mem_append_right _ (j2f hb e)))).1,fun b hb=>?_,w7⟩
   obtain⟨o,e,d⟩:=T.obj _ _ st5 b hb
   exact (I7.pin (b,o) (List.mem_append_right _ (List.mem_append_right _ (j2f hb e)))).2.1
  cases f with
  | next=>obtain⟨σ7,H7,I7,n7⟩:=q7;exact again I7 n7
  | cont=>obtain⟨σ7,H7,I7,n7⟩:=q7;exact again I7 n7
  | brk=>obtain⟨σ7,H7,I7,q7⟩:=q7;exact⟨σ7,H7,I7.unpinned,q7⟩
  | ret v=>obtain⟨x7,σ7,H7,I7,r7,q7⟩:=q7;exact⟨x7,σ7,H7,I7.unpinned,r7,q7⟩
end
theorem j2p {K:PySem.W.Frag}{a:Addr}{xs:List V}{g:TG}{tb:TS}{D:Ends}{σ:St}{H:Hp} (Pv:Nat→St→Hp→Prop) (h0:Pv 0 σ H) (hl:∀ i σ H,i≤xs.length→Pv i σ H→SqL K H a xs)
  (hs:∀ i x σ H,xs[i]?=some x→Pv i σ H→g x σ H fun σ2 H2=>tb { D with nx:=Pv (i+1),ct:=Pv (i+1),bk:=D.nx } σ2 H2) (hd:∀ σ H,Pv xs.length σ H→D.nx σ H) :
  ∃ W:Nat→Nat→St→Hp→Prop,(∃ m,W 0 m σ H)∧∀ i m σ H,W i m σ H →
   ((Itl K a).stop i H∧D.nx σ H)∨((Itl K a).go i H∧∃ N:St→Hp→Prop,(∀ σ' H',N σ' H'→∃ m',m' < m∧W (i+1) m' σ' H')∧∀ x H',(Itl K a).yld i H x H'→g x σ H' fun σ2 H2=>tb { D with nx:=N,ct:=N,bk:=D.nx } σ2 H2):=by
 refine⟨fun i m σ H=>m=xs.length-i∧i≤xs.length∧Pv i σ H,⟨xs.length,by simp,Nat.zero_le _,h0⟩,?_⟩
 rintro i m σ H ⟨rfl,hi,p⟩
 have q:=hl i σ H hi p
 by_cases hlt:i < xs.length
 ·refine .inr ⟨⟨xs,xs[i],q,by simp[hlt]⟩,Pv (i+1),fun σ' H' p'=>⟨xs.length-(i+1),by omega,rfl,hlt,p'⟩,fun x H' y=>?_⟩
  obtain⟨e,y⟩:=y
  subst e
  exact hs i x σ _ (y xs q) p
 ·have e:i=xs.length:=by omega
  subst e
  exact .inl ⟨⟨xs,q,Nat.le_refl _⟩,hd σ H p⟩
theorem j7a {lo:Int}{n:Nat}{g:TG}{tb:TS}{D:Ends}{σ:St}{H:Hp} (Pv:Nat→St→Hp→Prop) (h0:Pv 0 σ H)
  (hs:∀ i σ H,i < n→Pv i σ H→g (.int (lo+i)) σ H fun σ2 H2=>tb { D with nx:=Pv (i+1),ct:=Pv (i+1),bk:=D.nx } σ2 H2) (hd:∀ σ H,Pv n σ H→D.nx σ H) :
  ∃ W:Nat→Nat→St→Hp→Prop,(∃ m,W 0 m σ H)∧∀ i m σ H,W i m σ H →
   ((Itr lo n).stop i H∧D.nx σ H)∨((Itr lo n).go i H∧∃ N:St→Hp→Prop,(∀ σ' H',N σ' H'→∃ m',m' < m∧W (i+1) m' σ' H')∧∀ x H',(Itr lo n).yld i H x H'→g x σ H' fun σ2 H2=>tb { D with nx:=N,ct:=N,bk:=D.nx } σ2 H2):=by
 refine⟨fun i m σ H=>m=n-i∧i≤n∧Pv i σ H,⟨n,by simp,Nat.zero_le _,h0⟩,?_⟩
 rintro i m σ H ⟨rfl,hi,p⟩
 by_cases hlt:i < n
 ·refine .inr ⟨hlt,Pv (i+1),fun σ' H' p'=>⟨n-(i+1),by omega,rfl,hlt,p'⟩,fun x H' y=>?_⟩
  obtain⟨e,y⟩:=y
  subst e y
  exact hs i σ _ hlt p
 ·have e:i=n:=by omega
  subst e
  exact .inl ⟨Nat.le_refl _,hd σ H p⟩
abbrev R2:=V→V→Hp→VK→Prop
def OpR (X:Cx) (f:Value→Value→Sem Value) (r:R2):Prop :=
 ∀ (pins:List (Addr × Obj)) (s:Shared) (σ:St) (H:Hp) (x y:V) (v u:Value) (Q:VK),Inv X pins σ H s→RelV x v→RelV y u→r x y H Q →
  wpAny (model X.prog X.w) X.A (f v u) (EP X pins σ Q) X.xe s
def UnR (X:Cx) (f:Value→Sem Value) (r:V→Hp→VK→Prop):Prop :=
 ∀ (pins:List (Addr × Obj)) (s:Shared) (σ:St) (H:Hp) (x:V) (v:Value) (Q:VK),Inv X pins σ H s→RelV x v→r x H Q →
  wpAny (model X.prog X.w) X.A (f v) (EP X pins σ Q) X.xe s
def CallR (X:Cx) (f:Value) (r:List V→Hp→VK→Prop):Prop :=
 ∀ (pins:List (Addr × Obj)) (s:Shared) (σ:St) (H:Hp) (xs:List V) (us:List Value) (Q:VK),Inv X pins σ H s→Vals xs us→r xs H Q →
  wpAny (model X.prog X.w) X.A (call f us) (EP X pins σ Q) X.xe s
def TruR (X:Cx) (r:V→Hp→(Bool→Hp→Prop)→Prop):Prop :=
 ∀ (pins:List (Addr × Obj)) (s:Shared) (σ:St) (H:Hp) (x:V) (v:Value) (Q:Bool→Hp→Prop),Inv X pins σ H s→RelV x v→r x H Q →
  wpAny (model X.prog X.w) X.A (truthy v) (TP X pins σ Q) X.xe s
def tOp (r:R2) (ta tb:TE):TE:=fun σ H Q=>ta σ H fun x H1=>tb σ H1 fun y H2=>r x y H2 Q
def tUn (r:V→Hp→VK→Prop) (ta:TE):TE:=fun σ H Q=>ta σ H fun x H1=>r x H1 Q
def rI (C:Int→Int→Prop) (g:Int→Int→V):R2:=fun x y H Q=>∃ i j,x=.int i∧y=.int j∧C i j∧Q (g i j) H
def rI0 (g:Int→Int→V):R2:=fun x y H Q=>∃ i j,x=.int i∧y=.int j∧Q (g i j) H
def rU (g:Int→V):V→Hp→VK→Prop:=fun x H Q=>∃ i,x=.int i∧Q (g i) H
section
variable {X:Cx}{a b c:Expr}{ta tb tc:TE}{pos:Pos}
theorem binT (ha:PE X a ta) (hb:PE X b tb) {pins:List (Addr × Obj)}{s:Shared}{σ:St}{H:Hp}{R:V→V→Hp→Prop} (I:Inv X pins σ H s)
  (h:ta σ H fun x H1=>tb σ H1 fun y H2=>R x y H2) {Q:Value→Shared→Prop}{f:Value→Value→Sem Value}
  (hf:∀ v u s2 x y H2,Inv X pins σ H2 s2→RelV x v→RelV y u→R x y H2→wpAny (model X.prog X.w) X.A (f v u) Q X.xe s2) :
  wpAny (model X.prog X.w) X.A (eval a X.env) (fun v s₁=>wpAny (model X.prog X.w) X.A (eval b X.env) (fun u s₂=>wpAny (model X.prog X.w) X.A (f v u) Q X.xe s₂) X.xe s₁) X.xe s:=by
 refine thn (ha pins s σ H _ I h) fun v s1 ⟨x,H1,I1,r1,q1⟩=>?_
 refine thn (hb pins s1 σ H1 _ I1 q1) fun u s2 ⟨y,H2,I2,r2,q2⟩=>?_
 exact hf v u s2 x y H2 I2 r1 r2 q2
theorem j0p {op:Operator}{r:R2} (ho:OpR X (binaryOp op) r) (ha:PE X a ta) (hb:PE X b tb):PE X (.BinOp a op b pos) (tOp r ta tb):=by
 intro pins s σ H Q I h
 exact wpAny_BinOp (binT ha hb I h fun v u s2 x y H2 I2 rx ry q=>ho pins s2 σ H2 x y v u Q I2 rx ry q)
theorem jc0 {op:UnaryOp}{r:V→Hp→VK→Prop} (ho:UnR X (unaryOp op) r) (ha:PE X a ta):PE X (.UnaryOp op a pos) (tUn r ta):=by
 intro pins s σ H Q I h
 exact UnaryOp_ (thn (ha pins s σ H _ I h) fun v s1 ⟨x,H1,I1,r1,q1⟩=>ho pins s1 σ H1 x v Q I1 r1 q1)
theorem opI {f:Value→Value→Sem Value}{C:Int→Int→Prop}{g:Int→Int→Int}
  (rule:∀ (i j:Int) (t u:Tok) (s:Shared) (Q:Value→Shared→Prop) (E:Value→Shared→Prop),C i j→Q (.int (g i j) s.toks) { s with toks:=s.toks+1 }→wpAny (model X.prog X.w) X.A (f (.int i t) (.int j u)) Q E s) :
  OpR X f (rI C fun i j=>.int (g i j)):=by
 intro pins s σ H x y v u Q I rx ry h
 obtain⟨i,j,rfl,rfl,hc,q⟩:=h
 obtain⟨t,rfl⟩:=rx
 obtain⟨t',rfl⟩:=ry
 exact rule i j t t' s _ _ hc ⟨.int (g i j),H,I.tok _,⟨_,rfl⟩,q⟩
theorem opI0 {f:Value→Value→Sem Value}{g:Int→Int→Int}
  (rule:∀ (i j:Int) (t u:Tok) (s:Shared) (Q:Value→Shared→Prop) (E:Value→Shared→Prop),Q (.int (g i j) s.toks) { s with toks:=s.toks+1 }→wpAny (model X.prog X.w) X.A (f (.int i t) (.int j u)) Q E s) :
  OpR X f (rI0 fun i j=>.int (g i j)):=by
 intro pins s σ H x y v u Q I rx ry h
 obtain⟨i,j,rfl,rfl,q⟩:=h
 obtain⟨t,rfl⟩:=rx
 obtain⟨t',rfl⟩:=ry
 exact rule i j t t' s _ _ ⟨.int (g i j),H,I.tok _,⟨_,rfl⟩,q⟩
theorem opB0 {f:Value→Value→Sem Value}{g:Int→Int→Bool}
  (rule:∀ (i j:Int) (t u:Tok) (s:Shared) (Q:Value→Shared→Prop) (E:Value→Shared→Prop),Q (.bool (g i j)) s→wpAny (model X.prog X.w) X.A (f (.int i t) (.int j u)) Q E s) :
  OpR X f (rI0 fun i j=>.bl (g i j)):=by
 intro pins s σ H x y v u Q I rx ry h
 obtain⟨i,j,rfl,rfl,q⟩:=h
 obtain⟨t,rfl⟩:=rx
 obtain⟨t',rfl⟩:=ry
 exact rule i j t t' s _ _ ⟨.bl (g i j),H,I,rfl,q⟩
def CPow (i j:Int):Prop:=0≤j∧j≤1000000∧i.natAbs < 2 ^ 64
theorem op_add:OpR X (binaryOp .Add) (rI0 fun i j=>.int (i+j)):=opI0 fun _ _ _ _ _ _ _ q=>add_int q
theorem j2q:OpR X (binaryOp .Sub) (rI0 fun i j=>.int (i-j)):=opI0 fun _ _ _ _ _ _ _ q=>sub_int q
theorem j1g:OpR X (binaryOp .Mod) (rI (fun _ j=>0 < j) fun i j=>.int (i % j)):=opI fun i j _ _ _ _ _ hc q=>by
 have h1:(0:Int) < j:=hc
 exact mod_int' (by omega) (by rw[Int.fmod_eq_emod_of_nonneg i (by omega)];exact q)
theorem j83:OpR X (binaryOp .Pow) (rI CPow fun i j=>.int (i ^ j.toNat)):=opI fun _ _ _ _ _ _ _ hc q=>pow_int_small hc.1 hc.2.1 hc.2.2 q
theorem unI {f:Value→Sem Value}{g:Int→Int}
  (rule:∀ (i:Int) (t:Tok) (s:Shared) (Q:Value→Shared→Prop) (E:Value→Shared→Prop),Q (.int (g i) s.toks) { s with toks:=s.toks+1 }→wpAny (model X.prog X.w) X.A (f (.int i t)) Q E s) :
  UnR X f (rU fun i=>.int (g i)):=by
 intro pins s σ H x v Q I rx h
 obtain⟨i,rfl,q⟩:=h
 obtain⟨t,rfl⟩:=rx
 exact rule i t s _ _ ⟨.int (g i),H,I.tok _,⟨_,rfl⟩,q⟩
theorem j6c:UnR X (unaryOp .USub) (rU fun i=>.int (-i)):=unI fun _ _ _ _ _ q=>neg_int q
end
def scal:V→V→Bool
 | .non,.non=>true | .non,.int _=>true | .int _,.non=>true | .non,.bl _=>true | .bl _,.non=>true | .non,.str _=>true | .str _,.non=>true
 | .int _,.int _=>true | .bl _,.bl _=>true | .str _,.str _=>true | .byt _,.byt _=>true
 | .int _,.str _=>true | .str _,.int _=>true | .bl _,.str _=>true | .str _,.bl _=>true
 | _,_=>false
def rEq:R2:=fun x y H Q=>scal x y=true∧Q (.bl (decide (x=y))) H
def rNe:R2:=fun x y H Q=>scal x y=true∧Q (.bl (!decide (x=y))) H
theorem jbd {i j:Int}:decide (V.int i=V.int j)=(i == j):=by
 rw[Bool.eq_iff_iff]
 simp
theorem jdd {i j:Bool}:decide (V.bl i=V.bl j)=(i == j):=by
 rw[Bool.eq_iff_iff]
 simp
theorem jbe {i j:Str}:decide (V.str i=V.str j)=(i == j):=by
 rw[Bool.eq_iff_iff]
 simp
theorem jbf {i j:Array UInt8}:decide (V.byt i=V.byt j)=(i.toList == j.toList):=by
 rw[Bool.eq_iff_iff]
 cases i
 cases j
 simp
section
variable {X:Cx}{a b c:Expr}{ta tb tc:TE}{pos:Pos}
theorem j15 {pins:List (Addr × Obj)}{σ:St}{H:Hp}{s:Shared}{Q:VK}{k k':Bool} (I:Inv X pins σ H s) (q:Q (.bl k) H) (e:k=k'):EP X pins σ Q (.bool k') s:=by
 subst e
 exact⟨.bl k,H,I,rfl,q⟩
theorem op_eq:OpR X (compareOp .Eq) rEq:=by
 intro pins s σ H x y v u Q I rx ry h
 obtain⟨hs,q⟩:=h
 cases x with
 | non =>
  cases rx
  cases y with
  | non=>cases ry;exact PySem.EqNone.eq_none_none (j15 I q (by simp))
  | bl j=>cases ry;exact PySem.EqNone.eq_none_bool (j15 I q (by simp))
  | int j=>obtain⟨t',rfl⟩:=ry;exact PySem.EqNone.eq_none_int (j15 I q (by simp))
  | str j=>obtain⟨t',rfl⟩:=ry;exact PySem.EqNone.eq_none_str (j15 I q (by simp))
  | _=>exact absurd (show false=true from hs) Bool.false_ne_true
 | bl i =>
  cases rx
  cases y with
  | non=>cases ry;exact PySem.EqNone.eq_bool_none (j15 I q (by simp))
  | bl j=>cases ry;exact eq_bool (j15 I q jdd)
  | str j=>obtain⟨t',rfl⟩:=ry;exact PySem.EqMixed.eq_bool_str (j15 I q (by simp))
  | _=>exact absurd (show false=true from hs) Bool.false_ne_true
 | int i =>
  obtain⟨t,rfl⟩:=rx
  cases y with
  | non=>cases ry;exact PySem.EqNone.eq_int_none (j15 I q (by simp))
  | int j=>obtain⟨t',rfl⟩:=ry;exact eq_int (j15 I q jbd)
  | str j=>obtain⟨t',rfl⟩:=ry;exact PySem.EqMixed.eq_int_str (j15 I q (by simp))
  | _=>exact absurd (show false=true from hs) Bool.false_ne_true
 | str i =>
  obtain⟨t,rfl⟩:=rx
  cases y with
  | non=>cases ry;exact PySem.EqNone.eq_str_none (j15 I q (by simp))
  | bl j=>cases ry;exact PySem.EqMixed.eq_str_bool (j15 I q (by simp))
  | int j=>obtain⟨t',rfl⟩:=ry;exact PySem.EqMixed.eq_str_int (j15 I q (by simp))
  | str j=>obtain⟨t',rfl⟩:=ry;exact eq_str (j15 I q jbe)
  | _=>exact absurd (show false=true from hs) Bool.false_ne_true
 | byt i =>
  obtain⟨t,rfl⟩:=rx
  cases y with
  | byt j=>obtain⟨t',rfl⟩:=ry;exact PySem.W.eq_bytes (j15 I q jbf)
  | _=>exact absurd (show false=true from hs) Bool.false_ne_true
 | _=>cases y <;> exact absurd (show false=true from hs) Bool.false_ne_true
theorem jd5:OpR X (compareOp .NotEq) rNe:=by
 intro pins s σ H x y v u Q I rx ry h
 obtain⟨hs,q⟩:=h
 cases x with
 | non =>
  cases rx
  cases y with
  | non=>cases ry;exact PySem.EqNone.ne_none_none (j15 I q (by simp))
  | bl j=>cases ry;exact PySem.EqNone.ne_none_bool (j15 I q (by simp))
  | int j=>obtain⟨t',rfl⟩:=ry;exact PySem.EqNone.ne_none_int (j15 I q (by simp))
  | str j=>obtain⟨t',rfl⟩:=ry;exact PySem.EqNone.ne_none_str (j15 I q (by simp))
  | _=>exact absurd (show false=true from hs) Bool.false_ne_true
 | bl i =>
  cases rx
  cases y with
  | non=>cases ry;exact PySem.EqNone.ne_bool_none (j15 I q (by simp))
  | bl j=>cases ry;exact ne_bool (j15 I q (congrArg not jdd))
  | str j=>obtain⟨t',rfl⟩:=ry;exact PySem.EqMixed.ne_bool_str (j15 I q (by simp))
  | _=>exact absurd (show false=true from hs) Bool.false_ne_true
 | int i =>
  obtain⟨t,rfl⟩:=rx
  cases y with
  | non=>cases ry;exact PySem.EqNone.ne_int_none (j15 I q (by simp))
  | int j=>obtain⟨t',rfl⟩:=ry;exact ne_int (j15 I q (congrArg not jbd))
  | str j=>obtain⟨t',rfl⟩:=ry;exact PySem.EqMixed.ne_int_str (j15 I q (by simp))
  | _=>exact absurd (show false=true from hs) Bool.false_ne_true
 | str i =>
  obtain⟨t,rfl⟩:=rx
  cases y with
  | non=>cases ry;exact PySem.EqNone.ne_str_none (j15 I q (by simp))
  | bl j=>cases ry;exact PySem.EqMixed.ne_str_bool (j15 I q (by simp))
  | int j=>obtain⟨t',rfl⟩:=ry;exact PySem.EqMixed.ne_str_int (j15 I q (by simp))
  | str j=>obtain⟨t',rfl⟩:=ry;exact ne_str (j15 I q (congrArg not jbe))
  | _=>exact absurd (show false=true from hs) Bool.false_ne_true
 | byt i =>
  obtain⟨t,rfl⟩:=rx
  cases y with
  | byt j=>obtain⟨t',rfl⟩:=ry;exact PySem.W.ne_bytes (j15 I q (congrArg not jbf))
  | _=>exact absurd (show false=true from hs) Bool.false_ne_true
 | _=>cases y <;> exact absurd (show false=true from hs) Bool.false_ne_true
theorem jd6:OpR X (compareOp .Lt) (rI0 fun i j=>.bl (decide (i < j))):=opB0 fun _ _ _ _ _ _ _ q=>lt_int q
theorem op_le:OpR X (compareOp .LtE) (rI0 fun i j=>.bl (decide (i≤j))):=opB0 fun _ _ _ _ _ _ _ q=>le_int q
theorem jfd:OpR X (compareOp .Gt) (rI0 fun i j=>.bl (decide (j < i))):=opB0 fun _ _ _ _ _ _ _ q=>gt_int q
theorem op_ge:OpR X (compareOp .GtE) (rI0 fun i j=>.bl (decide (j≤i))):=opB0 fun _ _ _ _ _ _ _ q=>ge_int q
theorem OpR.or {f:Value→Value→Sem Value}{r r':R2} (h:OpR X f r) (h':OpR X f r'):OpR X f (fun x y H Q=>r x y H Q∨r' x y H Q):=by
 intro pins s σ H x y v u Q I rx ry q
 rcases q with q | q
 ·exact h pins s σ H x y v u Q I rx ry q
 ·exact h' pins s σ H x y v u Q I rx ry q
theorem j0m (b:Expr) {op:CmpOp} (h:op≠.In:=by decide) (h2:op≠.NotIn:=by decide):behindInMarks op b=false:=by
 have e1:(op == CmpOp.In)=false:=by cases op <;> first | rfl | exact absurd rfl h
 have e2:(op == CmpOp.NotIn)=false:=by cases op <;> first | rfl | exact absurd rfl h2
 cases b <;> simp[behindInMarks,e1,e2]
theorem j1n {op:CmpOp}{r:R2} (ho:OpR X (compareOp op) r) (ha:PE X a ta) (hb:PE X b tb) (hm:behindInMarks op b=false):PE X (.Compare a [op] [b] pos) (tOp r ta tb):=by
 intro pins s σ H Q I h
 exact wpAny_Compare1 (binT ha hb I h fun v u s2 x y H2 I2 rx ry q=>ho pins s2 σ H2 x y v u Q I2 rx ry q) hm
def jfo (t:TE):TT:=fun σ H Q=>t σ H fun x H'=>∃ k,x=.bl k∧Q k H'
theorem j0g {op:CmpOp}{r:R2} (ho:OpR X (compareOp op) r) (ha:PE X a ta) (hb:PE X b tb) (hm:behindInMarks op b=false):PT X (.Compare a [op] [b] pos) (jfo (tOp r ta tb)):=by
 intro pins s σ H Q I h
 refine wpAny_isTrue_Compare1 (thn (ha pins s σ H _ I h) fun v s1 ⟨x,H1,I1,r1,q1⟩=>thn (hb pins s1 σ H1 _ I1 q1) fun u s2 ⟨y,H2,I2,r2,q2⟩ =>
  thn (ho pins s2 σ H2 x y v u _ I2 r1 r2 q2) fun c s3 ⟨z,H3,I3,r3,k,e,q3⟩=>?_) hm
 subst e
 cases r3
 exact wpAny_truthy_bool ⟨H3,I3,q3⟩
def jc1 (r r':R2) (ta tb tc:TE):TE:=fun σ H Q=>ta σ H fun x H1=>tb σ H1 fun y H2=>r x y H2 fun z H3=>∃ k,z=.bl k ∧
 (if k=true then tc σ H3 fun w' H4=>r' y w' H4 Q else Q (.bl false) H3)
theorem j2r {op op':CmpOp}{r r':R2} (ho:OpR X (compareOp op) r) (ho':OpR X (compareOp op') r') (ha:PE X a ta) (hb:PE X b tb) (hc:PE X c tc)
  (hm:lastMarks [op,op'] [b,c]=false:=by with_unfolding_all rfl):PE X (.Compare a [op,op'] [b,c] pos) (jc1 r r' ta tb tc):=by
 intro pins s σ H Q I h
 refine Compare_chain (thn (ha pins s σ H _ I h) fun v s1 ⟨x,H1,I1,r1,q1⟩=>chain_link (thn (hb pins s1 σ H1 _ I1 q1) fun u s2 ⟨y,H2,I2,r2,q2⟩ =>
  thn (ho pins s2 σ H2 x y v u _ I2 r1 r2 q2) fun d s3 ⟨z,H3,I3,r3,k,e,q3⟩=>?_)) hm
 subst e
 cases r3
 refine wpAny_truthy_bool ?_
 cases k with
 | false=>exact ite_ff ⟨.bl false,H3,I3,rfl,q3⟩
 | true=>exact ite_tt (chain_last (thn (hc pins s3 σ H3 _ I3 q3) fun w' s4 ⟨z',H4,I4,r4,q4⟩=>ho' pins s4 σ H4 y z' u w' Q I4 r2 r4 q4))
theorem j8v {op op':CmpOp}{r r':R2} (ho:OpR X (compareOp op) r) (ho':OpR X (compareOp op') r') (ha:PE X a ta) (hb:PE X b tb) (hc:PE X c tc)
  (hm:lastMarks [op,op'] [b,c]=false:=by with_unfolding_all rfl):PT X (.Compare a [op,op'] [b,c] pos) (jfo (jc1 r r' ta tb tc)):=by
 intro pins s σ H Q I h
 refine isTrue_chain (thn (ha pins s σ H _ I h) fun v s1 ⟨x,H1,I1,r1,q1⟩=>test_link (thn (hb pins s1 σ H1 _ I1 q1) fun u s2 ⟨y,H2,I2,r2,q2⟩ =>
  thn (ho pins s2 σ H2 x y v u _ I2 r1 r2 q2) fun d s3 ⟨z,H3,I3,r3,k,e,q3⟩=>?_)) hm
 subst e
 cases r3
 refine wpAny_truthy_bool ?_
 cases k with
 | false =>
  obtain⟨k',e',q'⟩:=q3
  cases e'
  exact ite_ff ⟨H3,I3,q'⟩
 | true =>
  refine ite_tt (test_last (thn (hc pins s3 σ H3 _ I3 q3) fun w' s4 ⟨z',H4,I4,r4,q4⟩=>thn (ho' pins s4 σ H4 y z' u w' _ I4 r2 r4 q4) fun d' s5 ⟨z2,H5,I5,r5,k2,e2,q5⟩=>?_))
  subst e2
  cases r5
  exact wpAny_truthy_bool ⟨H5,I5,q5⟩
def TruV (K:PySem.W.Frag) (x:V) (H:Hp) (k:Bool):Prop :=
 match x with
 | .non=>k=false
 | .bl b=>k=b
 | .int i=>k=(i != 0)
 | .str y=>y.length≤sizeLine∧k=((y.length:Int) != 0)
 | .byt y=>y.size≤sizeLine∧k=((y.size:Int) != 0)
 | .ref p=>(∃ xs,SqL K H p xs∧k=!xs.isEmpty)∨(∃ xs,SqT K H p xs∧k=!xs.isEmpty)∨∃ kvs,H p=some (.dK kvs)∧k=!kvs.isEmpty
 | _=>False
theorem j8w {κ:Type}{kvs:List (κ × V)}{vs:List (κ × Value)} (r:KV kvs vs):(!vs.isEmpty)=!kvs.isEmpty:=by
 cases r <;> rfl
theorem j5i {xs:List V}{its:List Value} (r:Vals xs its):(!its.toArray.isEmpty)=!xs.isEmpty:=by
 cases r <;> simp
theorem j6d:(sizeLine:Nat) < 2 ^ 63:=by rw[sizeLine_eq];decide
theorem tru_ok:TruR X (fun x H Q=>∃ k,TruV X.K x H k∧Q k H):=by
 intro pins s σ H x v Q I rx h
 obtain⟨k,e,q⟩:=h
 have hl:=j6d
 have hs:sizeLine=16777216:=sizeLine_eq
 cases x with
 | non =>
  cases rx
  have e':k=false:=e
  subst e'
  exact truthy_none ⟨H,I,q⟩
 | bl b =>
  cases rx
  have e':k=b:=e
  subst e'
  exact wpAny_truthy_bool ⟨H,I,q⟩
 | int i =>
  obtain⟨t,rfl⟩:=rx
  have e':k=(i != 0):=e
  subst e'
  exact PySem.P.truthy_int ⟨H,I,q⟩
 | str y =>
  obtain⟨t,rfl⟩:=rx
  obtain⟨hy,e'⟩:y.length≤sizeLine∧k=((y.length:Int) != 0):=e
  subst e'
  exact PySem.P.truthy_str (by omega) ⟨H,I.tok _,q⟩
 | byt y =>
  obtain⟨t,rfl⟩:=rx
  obtain⟨hy,e'⟩:y.size≤sizeLine∧k=((y.size:Int) != 0):=e
  subst e'
  exact PySem.W.truthy_bytes (by omega) ⟨H,I.tok _,q⟩
 | ref p =>
  cases rx
  have e':(∃ xs,SqL X.K H p xs∧k=!xs.isEmpty)∨(∃ xs,SqT X.K H p xs∧k=!xs.isEmpty)∨∃ kvs,H p=some (.dK kvs)∧k=!kvs.isEmpty:=e
  rcases e' with⟨xs,hx,e'⟩ | ⟨xs,hx,e'⟩ | ⟨kvs,hx,e'⟩
  ·subst e'
   obtain⟨its,r,pl,hz⟩:=I.list hx
   have hlen:=r.length
   exact wpAny_truthy_list pl.isList (by simp only[List.size_toArray];omega) ⟨H,I.tok _,by rw[j5i r];exact q⟩
  ·subst e'
   obtain⟨its,r,pl,hz⟩:=I.tuple hx
   have hlen:=r.length
   exact truthy_tuple pl (by simp only[List.size_toArray];omega) ⟨H,I.tok _,by rw[j5i r];exact q⟩
  ·subst e'
   obtain⟨hz,hS,vs,r,m⟩:kvs.length≤sizeLine∧(p == sysModules)=false∧∃ vs,KV kvs vs∧s.heap.DictOf (j8n X.prog X.w) p vs:=I.hok p _ hx
   have hlen:kvs.length=vs.length:=Paired.length r
   exact wpAny_truthy_dict hS m (by omega) ⟨H,I.tok _,by rw[j8w r];exact q⟩
 | _=>exact (show False from e).elim
theorem jc2 (ha:PE X a ta) (he:∀ whole,isTrue a X.env whole=(do let v ← whole;standAt a.pos;holding [v] (truthy v))) :
  PT X a (fun σ H Q=>ta σ H fun x H'=>∃ k,TruV X.K x H' k∧Q k H'):=by
 intro pins s σ H Q I h
 exact isTrue_plain (thn (ha pins s σ H _ I h) fun v s1 ⟨x,H1,I1,r1,q1⟩=>tru_ok pins s1 σ H1 x v Q I1 r1 q1) (he _)
theorem j8x:OpR X (binaryOp .Add) (fun x y H Q=>∃ i j,x=.str i∧y=.str j∧i.length+j.length≤sizeLine∧Q (.str (i++j)) H):=by
 intro pins s σ H x y v u Q I rx ry h
 obtain⟨i,j,rfl,rfl,hz,q⟩:=h
 obtain⟨t,rfl⟩:=rx
 obtain⟨t',rfl⟩:=ry
 exact add_str (fun t' tk=>⟨.str (i++j),H,I.tok _,⟨_,rfl⟩,q⟩) hz
theorem j8y {x:V}{us:List Value} (r:Vals [x] us):∃ u,us=[u]∧RelV x u:=by
 cases r with
 | cons r1 r2=>cases r2;exact⟨_,rfl,r1⟩
theorem jde {x y:V}{us:List Value} (r:Vals [x,y] us):∃ u w',us=[u,w']∧RelV x u∧RelV y w':=by
 cases r with
 | cons r1 r2 =>
  cases r2 with
  | cons r3 r4=>cases r4;exact⟨_,_,rfl,r1,r3⟩
theorem jc3:CallR X (.builtin "abs") (fun xs H Q=>∃ i,xs=[.int i]∧Q (.int (if i < 0 then -i else i)) H):=by
 intro pins s σ H xs us Q I r h
 obtain⟨i,rfl,q⟩:=h
 obtain⟨u,rfl,t,rfl⟩:=j8y r
 exact call_abs_int fun u tk=>⟨.int (if i < 0 then -i else i),H,I.tok _,⟨_,rfl⟩,q⟩
theorem jac (hc:X.calm=true):CallR X (.builtin "max") (fun xs H Q=>∃ i j,xs=[.int i,.int j]∧Q (.int (if j > i then j else i)) H):=by
 intro pins s σ H xs us Q I r h
 obtain⟨i,j,rfl,q⟩:=h
 obtain⟨u,w',rfl,⟨t,rfl⟩,⟨t',rfl⟩⟩:=jde r
 refine max_two_ints (I.ok.hd hc) fun h' tk k=>⟨_,H,I.kept k,?_,q⟩
 by_cases hj:j > i
 ·rw[if_pos hj,if_pos hj];exact⟨_,rfl⟩
 ·rw[if_neg hj,if_neg hj];exact⟨_,rfl⟩
theorem jad (hc:X.calm=true):CallR X (.builtin "min") (fun xs H Q=>∃ i j,xs=[.int i,.int j]∧Q (.int (if j < i then j else i)) H):=by
 intro pins s σ H xs us Q I r h
 obtain⟨i,j,rfl,q⟩:=h
 obtain⟨u,w',rfl,⟨t,rfl⟩,⟨t',rfl⟩⟩:=jde r
 refine min_two_ints (I.ok.hd hc) fun h' tk k=>⟨_,H,I.kept k,?_,q⟩
 by_cases hj:j < i
 ·rw[if_pos hj,if_pos hj];exact⟨_,rfl⟩
 ·rw[if_neg hj,if_neg hj];exact⟨_,rfl⟩
def LenV (K:PySem.W.Frag) (x:V) (H:Hp) (n:Nat):Prop :=
 match x with
 | .str y=>y.length≤sizeLine∧n=y.length
 | .byt y=>y.size≤sizeLine∧n=y.size
 | .ref p=>(∃ xs,SqL K H p xs∧n=xs.length)∨∃ xs,SqT K H p xs∧n=xs.length
 | _=>False
theorem jc4:CallR X (.builtin "len") (fun xs H Q=>∃ x n,xs=[x]∧LenV X.K x H n∧Q (.int n) H):=by
 intro pins s σ H xs us Q I r h
 obtain⟨x,n,rfl,e,q⟩:=h
 obtain⟨u,rfl,rx⟩:=j8y r
 have hl:=j6d
 have hs:sizeLine=16777216:=sizeLine_eq
 cases x with
 | str y =>
  obtain⟨t,rfl⟩:=rx
  obtain⟨hy,e'⟩:y.length≤sizeLine∧n=y.length:=e
  subst e'
  exact len_str (by omega) ⟨.int _,H,I.tok _,⟨_,rfl⟩,q⟩
 | byt y =>
  obtain⟨t,rfl⟩:=rx
  obtain⟨hy,e'⟩:y.size≤sizeLine∧n=y.size:=e
  subst e'
  exact PySem.W.len_bytes (by omega) ⟨.int _,H,I.tok _,⟨_,rfl⟩,q⟩
 | ref p =>
  cases rx
  have e':(∃ xs,SqL X.K H p xs∧n=xs.length)∨∃ xs,SqT X.K H p xs∧n=xs.length:=e
  rcases e' with⟨xs,hx,e'⟩ | ⟨xs,hx,e'⟩
  ·subst e'
   obtain⟨its,r',pl,hz⟩:=I.list hx
   have hlen:=r'.length
   exact Calls.call_len_list pl.isList (by simp only[List.size_toArray];omega) ⟨.int xs.length,H,I.tok _,⟨_,by simp only[List.size_toArray];rw[hlen]⟩,q⟩
  ·subst e'
   obtain⟨its,r',pl,hz⟩:=I.tuple hx
   have hlen:=r'.length
   exact len_tuple pl (by simp only[List.size_toArray];omega) ⟨.int xs.length,H,I.tok _,⟨_,by simp only[List.size_toArray];rw[hlen]⟩,q⟩
 | _=>exact (show False from e).elim
end
structure ObjM (h:Heap) (x dx C:Addr) (mA:Str→Option Value):Prop where
 obj:h.get? x=some (PySem.W.instObj C dx)
 ns:h.Ns1 dx mA
 ne:dx≠x
theorem jae {h:Heap}{dx:Addr}{mA:Str→Option Value} (n:h.Ns1 dx mA):∃ od,h.get? dx=some od∧∀ name,PySem.W.lookIn name od=some (mA name):=by
 obtain⟨o,es,ep,ho,hd,hk,_,hm⟩:=n
 refine⟨o,ho,fun name=>?_⟩
 have e:=hm name
 unfold nsFind findBy at e
 rw[← Array.find?_toList] at e
 unfold PySem.W.lookIn
 rw[hd]
 dsimp only
 split
 ·rename_i y q
  rw[q] at e
  exact congrArg some e
 ·rename_i q
  rw[q] at e
  have a:es.toList.any (·.refKey)=false:=by
   rw[List.any_eq_false]
   intro y hy
   obtain⟨z,t,hkey⟩:=hk y (Array.mem_toList_iff.mp hy)
   simp[DictEntry.refKey,hkey]
  have a':¬ es.toList.any (·.refKey)=true:=by rw[a];exact Bool.false_ne_true
  rw[if_neg a']
  exact congrArg some e
theorem ObjM.look {h:Heap}{x dx C:Addr}{mA:Str→Option Value} (I:ObjM h x dx C mA):∃ od,PySem.W.InstAt h x (PySem.W.instObj C dx) C (some od)∧∀ name,PySem.W.lookIn name od=some (mA name) :=
 let ⟨od,ho,hl⟩:=jae I.ns
 ⟨od,⟨I.obj,rfl,rfl,ho⟩,hl⟩
section
variable {prog:Program}{w:World}{A:Around}{E:Value→Shared→Prop}{s:Shared}{K:PySem.W.Frag}{x dx C f:Addr}{mA:Str→Option Value}{name:Str}{v:Value}
theorem jdf {expr:Bool}{Q:Value→Shared→Prop} (X:K.In s.heap) (I:ObjM s.heap x dx C mA) (hg:PySem.W.plainGet K C name=true) (hh:PySem.W.hasDictIn K C=true)
  (ha:PySem.W.findIn K (.ref C) name=some none) (hv:mA name=some v) (hv':PySem.W.handedIn v=true) (h:Q v { s with toks:=s.toks+1 }) :
  wpAny (model prog w) A (getAttr (.ref x) name expr) Q E s:=by
 obtain⟨od,J,hl⟩:=I.look
 exact PySem.W.get_value X J (PySem.W.plainGet_of hg).1 (PySem.W.findObj_own hh ha rfl (by rw[hl,hv])) hv' h
theorem jc5 {pl:Sem Bool}{Q:Value × List Value→Shared→Prop} (X:K.In s.heap) (I:ObjM s.heap x dx C mA) (hg:PySem.W.plainGet K C name=true)
  (hf:PySem.W.findIn K (.ref C) name=some (some (.ref f))) (ht:PySem.W.isFn K (.ref f)=true) (hv:mA name=none) (h:Q (.ref f,[.ref x]) s) :
  wpAny (model prog w) A (getMethod (.ref x) name pl) Q E s:=by
 obtain⟨od,J,hl⟩:=I.look
 exact PySem.W.method_fn X J (PySem.W.plainGet_of hg).1 (PySem.W.plainGet_of hg).2 hf (beq_iff_eq.mp ht) (by show (PySem.W.lookIn name od).map (·.isSome)=some false;rw[hl,hv];rfl) h
theorem jdg {ns:List Str}{Q:Unit→Shared→Prop} (X:K.In s.heap) (I:ObjM s.heap x dx C mA)
  (hs:PySem.W.findIn K (.ref C) "__setattr__"=some (some (.builtin "object.__setattr__"))) (hp:PySem.W.plainOver K C=true) (ht:PySem.W.takerIn K C name=some none) (hh:PySem.W.hasDictIn K C=true)
  (hw:PySem.Within mA ns) (hsz:ns.length≤sizeLine)
  (h:∀ h',ObjM h' x dx C (fun y=>if y=name then some v else mA y)→Heap.SameBut dx s.heap h'→Q () { s with heap:=h',toks:=s.toks+2 }) :
  wpAny (model prog w) A (setAttr (.ref x) name v) Q E s:=by
 obtain⟨od,J,hl⟩:=I.look
 refine PySem.W.set_plain X J hs (PySem.W.osa_open (s:={ s with toks:=s.toks+1 }) (r:=none) X J hp ht fun b=>?_)
 obtain⟨cd,hc,hd'⟩:=PySem.W.any_some hh
 have hx:s.heap.get? x=some ⟨.ref C,some dx,.plain,#[]⟩:=I.obj
 refine wpAny_bind (wpAny_pure (wpAny_bind (wpAny_bind (wpAny_loadPart hx (wpAny_bind (PySem.W.Looks.here (s:={ s with toks:=s.toks+1 }) (PySem.W.looks_clsIn X hc) ?_))))))
 rw[hd']
 refine wpAny_pure (a:=some dx) (wpAny_bind (wpAny_pure (wpAny_bind ?_)))
 refine wpAny_nsSet1 (s:={ s with toks:=s.toks+1 }) I.ns fun h' hn2 hs2=>?_
 obtain⟨oD,esD,epD,hoD,hdD,hcD⟩:=hn2.count (PySem.Within.cons name v hw)
 refine wpAny_bind (wpAny_lookBehind hoD (by rw[hdD];exact pastItsLine_dict (Nat.le_trans hcD (by rw[List.length_cons];omega))) ?_)
 exact wpAny_pure (h _ ⟨(hs2.2 _ (Ne.symm I.ne)).trans I.obj,hn2,I.ne⟩ hs2)
theorem jc6 {R:Result→Shared→Prop}{vs:List Value}{kw:List (Str × Value)} (X:K.In s.heap) (hm:PySem.W.makesIn K C=true)
  (hi:PySem.W.findIn K (.ref C) "__init__"=some (some (.ref f))) (hf:PySem.W.typeIn K (.ref f)=some (.type "function"))
  (h:codeAny (model prog w) (A.under (.builtin "type.__call__" ⟨.ref C :: vs,kw⟩)) (.call (.ref f) ⟨.ref (s.heap.objs.size+1) :: vs,kw⟩) (PySem.W.InitBack (s.heap.objs.size+1) R)
   { s with heap:=(s.heap.push PySem.W.emptyDict).push (PySem.W.instObj C s.heap.objs.size) }) :
  codeAny (model prog w) A (.call (.ref C) ⟨vs,kw⟩) R s:=by
 obtain⟨hh,g,d,t,os⟩:=s
 exact PySem.W.make_core (PySem.W.makes_of X hm) (PySem.W.looks_findIn X hi) (fun self=>PySem.W.bind_fn X self hf) (.inl rfl) h
end
def putF (f:Str) (v:V):List (Str × V)→List (Str × V)
 | []=>[(f,v)]
 | (g,x) :: r=>if g=f then (g,v) :: r else (g,x) :: putF f v r
theorem j4s (f g:Str) (v:V):∀ fs:List (Str × V),(putF f v fs).lookup g=if g=f then some v else fs.lookup g
 | []=>by
  show List.lookup g [(f,v)]=_
  by_cases h:g=f
  ·have hb:(g == f)=true:=beq_iff_eq.mpr h
   simp only[List.lookup,hb,if_pos h]
  ·have hb:(g == f)=false:=beq_eq_false_iff_ne.mpr h
   simp only[List.lookup,hb,if_neg h]
 | (k,x) :: r=>by
  have ih:=j4s f g v r
  rw[show putF f v ((k,x) :: r)=(if k=f then (k,v) :: r else (k,x) :: putF f v r) from rfl]
  by_cases hk:k=f
  ·rw[if_pos hk]
   by_cases h:g=k
   ·have hb:(g == k)=true:=beq_iff_eq.mpr h
    simp only[List.lookup,hb,if_pos (h.trans hk)]
   ·have hb:(g == k)=false:=beq_eq_false_iff_ne.mpr h
    simp only[List.lookup,hb,if_neg (fun e:g=f=>h (e.trans hk.symm))]
  ·rw[if_neg hk]
   by_cases h:g=k
   ·have hb:(g == k)=true:=beq_iff_eq.mpr h
    simp only[List.lookup,hb,if_neg (fun e:g=f=>hk (h.symm.trans e))]
   ·have hb:(g == k)=false:=beq_eq_false_iff_ne.mpr h
    simp only[List.lookup,hb]
    exact ih
theorem j4z (f:Str) (v:V):∀ fs:List (Str × V),f∈(putF f v fs).map (·.1)∧∀ g,g∈fs.map (·.1)→g∈(putF f v fs).map (·.1)
 | []=>⟨by simp[putF],fun g h=>by simp at h⟩
 | (k,x) :: r=>by
  obtain⟨i1,i2⟩:=j4z f v r
  rw[show putF f v ((k,x) :: r)=(if k=f then (k,v) :: r else (k,x) :: putF f v r) from rfl]
  by_cases hk:k=f
  ·rw[if_pos hk]
   subst hk
   exact⟨by simp,fun g h=>by simpa using h⟩
  ·rw[if_neg hk]
   refine⟨?_,fun g h=>?_⟩
   ·rw[List.map_cons]
    exact List.mem_cons_of_mem _ i1
   ·rw[List.map_cons] at h ⊢
    rcases List.mem_cons.mp h with e | e
    ·exact List.mem_cons.mpr (.inl e)
    ·exact List.mem_cons_of_mem _ (i2 g e)
theorem j4t (f:Str) (v:V):∀ fs:List (Str × V),(putF f v fs).length≤fs.length+1
 | []=>by simp[putF]
 | (k,x) :: r=>by
  have ih:=j4t f v r
  rw[show putF f v ((k,x) :: r)=(if k=f then (k,v) :: r else (k,x) :: putF f v r) from rfl]
  by_cases hk:k=f
  ·rw[if_pos hk,List.length_cons,List.length_cons];omega
  ·rw[if_neg hk,List.length_cons,List.length_cons];omega
theorem RelO.some_of {v:V}{o:Option Value} (r:RelO (some v) o):∃ u,o=some u∧RelV v u:=by
 cases o with
 | none=>exact (show False from r).elim
 | some u=>exact⟨u,rfl,r⟩
theorem RelO.none_of {o:Option Value} (r:RelO none o):o=none:=by
 cases o with
 | none=>rfl
 | some u=>exact (show False from r).elim
theorem j7b {v:V}{u:Value} (r:RelV v u):PySem.W.handedIn u=true:=by
 cases v with
 | non=>cases (show u=Value.none from r);rfl
 | bl b=>cases (show u=Value.bool b from r);rfl
 | int i=>obtain⟨t,e⟩:=(show ∃ t,u=Value.int i t from r);cases e;rfl
 | str x=>obtain⟨t,e⟩:=(show ∃ t,u=Value.str x t from r);cases e;rfl
 | byt b=>obtain⟨t,e⟩:=(show ∃ t,u=Value.bytes b t from r);cases e;rfl
 | flt b=>obtain⟨t,e⟩:=(show ∃ t,u=Value.float b t from r);cases e;rfl
 | ref a=>cases (show u=Value.ref a from r);rfl
 | ty n=>cases (show u=Value.type n from r);rfl
section
variable {P:Program}{w:World}{H H':Hp}{h h':Heap}{a C dx:Addr}{fs fs':List (Str × V)}
theorem j7c (hok:HOk P w H h) (e:H a=some (.ins C dx fs)):∃ mA,ObjM h a dx C mA∧(∀ f,RelO (fs.lookup f) (mA f))∧PySem.Within mA (fs.map (·.1))∧fs.length≤1000∧H dx=some (.own a):=by
 obtain⟨d,z,ne,ob,mA,n,r,q⟩:=(show ObjOk P w H h a (.ins C dx fs) from hok a _ e)
 exact⟨mA,⟨ob,n,ne⟩,r,q,z,d⟩
end
structure Cls (K:PySem.W.Frag) (C:Addr):Prop where
 pg:PySem.W.plainGet K C Str.empty=true
 hd:PySem.W.hasDictIn K C=true
 po:PySem.W.plainOver K C=true
 sa:PySem.W.findIn K (.ref C) "__setattr__"=some (some (.builtin "object.__setattr__"))
theorem Cls.get {K:PySem.W.Frag}{C:Addr} (c:Cls K C) (f:Str):PySem.W.plainGet K C f=true:=c.pg
def NoAttr (K:PySem.W.Frag) (C:Addr) (f:Str):Prop:=PySem.W.findIn K (.ref C) f=some none
theorem NoAttr.taker {K:PySem.W.Frag}{C:Addr}{f:Str} (n:NoAttr K C f):PySem.W.takerIn K C f=some none:=by
 unfold PySem.W.takerIn
 rw[show PySem.W.findIn K (.ref C) f=some none from n]
 rfl
structure Con (K:PySem.W.Frag) (C:Addr) (f:Str) (v:V) (u:Value):Prop where
 at_:PySem.W.findIn K (.ref C) f=some (some u)
 rel:RelV v u
 get:PySem.W.specialIn K u "__get__"=some none
 cp:PySem.W.copiedNames.contains f=false
structure Meth (K:PySem.W.Frag) (C:Addr) (m:Str) (f:Addr):Prop where
 at_:PySem.W.findIn K (.ref C) m=some (some (.ref f))
 fn:PySem.W.isFn K (.ref f)=true
 kp:PySem.W.keepIn K (.ref f)=true
section
variable {X:Cx}{pins:List (Addr × Obj)}{σ:St}{H:Hp}{s:Shared}{a C dx:Addr}{fs:List (Str × V)}{f:Str}{v:V}{A:Around}{E:Value→Shared→Prop}
theorem j8z {b:Bool}{Q:Value→Shared→Prop} (I:Inv X pins σ H s) (e:H a=some (.ins C dx fs)) (c:Cls X.K C) (n:NoAttr X.K C f) (l:fs.lookup f=some v)
  (h:∀ u s',Inv X pins σ H s'→RelV v u→Q u s'):wpAny (model X.prog X.w) A (getAttr (.ref a) f b) Q E s:=by
 obtain⟨mA,O,r,_,_,_⟩:=j7c I.hok e
 obtain⟨u,hu,ru⟩:=RelO.some_of (v:=v) (o:=mA f) (by rw[← l];exact r f)
 exact jdf I.kIn O (c.get f) c.hd n hu (j7b ru) (h u _ (I.tok _) ru)
theorem j5j {m:Str}{g:Addr}{pl:Sem Bool}{Q:Value × List Value→Shared→Prop} (I:Inv X pins σ H s) (e:H a=some (.ins C dx fs)) (c:Cls X.K C) (k:Meth X.K C m g) (l:fs.lookup m=none)
  (h:Q (.ref g,[.ref a]) s):wpAny (model X.prog X.w) A (getMethod (.ref a) m pl) Q E s:=by
 obtain⟨mA,O,r,_,_,_⟩:=j7c I.hok e
 have hn:mA m=none:=RelO.none_of (by rw[← l];exact r m)
 exact jc5 I.kIn O (c.get m) k.at_ k.fn hn h
theorem j90 {y:V}{u:Value}{Q:Unit→Shared→Prop} (I:Inv X pins σ H s) (e:H a=some (.ins C dx fs)) (c:Cls X.K C) (n:NoAttr X.K C f) (hl:fs.length < 1000) (ry:RelV y u)
  (h:∀ s',Inv X pins σ (upd H a (.ins C dx (putF f y fs))) s'→Q () s'):wpAny (model X.prog X.w) A (setAttr (.ref a) f u) Q E s:=by
 obtain⟨mA,O,r,wi,_,ho⟩:=j7c I.hok e
 have hz:(fs.map (·.1)).length≤sizeLine:=by rw[List.length_map,sizeLine_eq];omega
 refine jdg I.kIn O c.sa c.po n.taker c.hd wi hz fun h' O' sb=>h _ ?_
 have hd:∃ o,h'.get? dx=some o:=let ⟨o,_,_,e',_⟩:=O'.ns;⟨o,e'⟩
 refine I.write (x:=a) (e:=dx) (by rw[e];exact True.intro) (.inr ho) (fun b q hb z=>(sb.2 b hb).trans z) hd ?_
 refine⟨by rw[j0o O.ne];exact ho,?_,O.ne,O'.obj,_,O'.ns,fun g=>?_,fun g hg=>?_⟩
 ·have:=j4t f y fs;omega
 ·show RelO ((putF f y fs).lookup g) (if g=f then some u else mA g)
  rw[j4s]
  by_cases q:g=f
  ·rw[if_pos q,if_pos q];exact ry
  ·rw[if_neg q,if_neg q];exact r g
 ·by_cases q:g=f
  ·rw[q];exact (j4z f y fs).1
  ·refine (j4z f y fs).2 g (wi g fun z=>hg ?_)
   show (if g=f then some u else mA g)=none
   rw[if_neg q];exact z
theorem Inv.made (I:Inv X pins σ H s):Inv X pins σ (upd (upd H s.heap.objs.size (.own (s.heap.objs.size+1))) (s.heap.objs.size+1) (.ins C s.heap.objs.size []))
  { s with heap:=(s.heap.push PySem.W.emptyDict).push (PySem.W.instObj C s.heap.objs.size) }:=by
 have e1:(s.heap.push PySem.W.emptyDict).get? s.heap.objs.size=some PySem.W.emptyDict:=Heap.get?_push_size s.heap rfl
 have e2:((s.heap.push PySem.W.emptyDict).push (PySem.W.instObj C s.heap.objs.size)).get? (s.heap.objs.size+1)=some (PySem.W.instObj C s.heap.objs.size):=by
  have:=Heap.get?_push_size (s.heap.push PySem.W.emptyDict) (o:=PySem.W.instObj C s.heap.objs.size) rfl
  rwa [Heap.size_push] at this
 have e3:(s.heap.push PySem.W.emptyDict).Ns s.heap.objs.size (fun _=>none):=⟨PySem.W.emptyDict,#[],_,e1,rfl,(fun e he=>absurd he (by simp)),fun _=>rfl⟩
 have I1:=I.laid (a:=s.heap.objs.size) (o:=.own (s.heap.objs.size+1)) (h':=s.heap.push PySem.W.emptyDict) (t':=s.toks) (fun b u q=>Heap.get?_push_of_some _ q) (Nat.le_refl _) ⟨_,e1⟩
 refine I1.laid (a:=s.heap.objs.size+1) (o:=.ins C s.heap.objs.size []) (t':=s.toks) (fun b u q=>Heap.get?_push_of_some _ q) (Nat.le_of_eq (Heap.size_push _ _)) ?_
 have ne:s.heap.objs.size≠s.heap.objs.size+1:=Nat.ne_of_lt (Nat.lt_succ_self _)
 refine⟨by rw[j0o ne,j0k],Nat.zero_le _,ne,e2,fun _=>none,(Heap.Ns1.of_empty e3).at fun o q=>Heap.get?_push_of_some _ q,fun _=>True.intro,fun y hy=>absurd rfl hy⟩
theorem jdh {prog:Program}{w:World}{env:Env}{e:Expr}{f:Str}{pos:Pos}{s:Shared}{Q:Value→Shared→Prop} (hb:attributeBase e f env (eval e env)=eval e env)
  (h:wpAny (model prog w) A (eval e env) (fun o s₁=>wpAny (model prog w) A (getAttr o f true) Q E s₁) E s):wpAny (model prog w) A (eval (.Attribute e f pos) env) Q E s :=
 Attribute_any_ h (by rw[arm_eval_Attribute,hb])
end
def tFld (K:PySem.W.Frag) (ta:TE) (f:Str):TE:=fun σ H Q=>ta σ H fun x H1=>∃ a C dx fs v,x=.ref a∧H1 a=some (.ins C dx fs)∧Cls K C∧NoAttr K C f∧fs.lookup f=some v∧Q v H1
def sFld (K:PySem.W.Frag) (ta tv:TE) (f:Str):TS:=fun D σ H=>tv σ H fun y H1=>ta σ H1 fun x H2=>∃ a C dx fs,x=.ref a∧H2 a=some (.ins C dx fs)∧Cls K C∧NoAttr K C f∧fs.length < 1000 ∧
 D.nx σ (upd H2 a (.ins C dx (putF f y fs)))
section
variable {X:Cx}{o e value:Expr}{f:Str}{pos pos' tpos:Pos}{ta tv:TE}
theorem j0l (he:PE X e ta) (hb:attributeBase e f X.env (eval e X.env)=eval e X.env):PE X (.Attribute e f pos) (tFld X.K ta f):=by
 intro pins s σ H Q I h
 refine jdh hb (thn (he pins s σ H _ I h) fun u s1 ⟨x,H1,I1,rx,a,C,dx,fs,v,ex,ea,c,n,l,q⟩=>?_)
 subst ex
 obtain rfl:u=Value.ref a:=rx
 exact j8z I1 ea c n l fun u' s2 I2 ru=>⟨v,H1,I2,ru,q⟩
theorem j0x (ha:PE X o ta) (hv:PE X value tv) (hs:swapsWith value (some (.Attribute o f pos')) pos.line X.env=pure false):PS X (.Assign [.Attribute o f pos'] value pos) (sFld X.K ta tv f):=by
 intro pins s σ H D I h
 refine plainObj_wpAny_Assign_Attribute (thn (hv pins s σ H _ I h) fun u s1 ⟨y,H1,I1,ry,q⟩=>thn (ha pins s1 σ H1 _ I1 q) fun ov s2 ⟨x,H2,I2,rx,a,C,dx,fs,ex,ea,c,n,l,q2⟩=>?_) hs
 subst ex
 obtain rfl:ov=Value.ref a:=rx
 exact j90 I2 ea c n l ry fun s3 I3=>⟨σ,_,I3,q2⟩
end
section
variable {X:Cx}{pins:List (Addr × Obj)}{σ:St}{H:Hp}{s:Shared}{A:Around}{E:Value→Shared→Prop}{Q:Value→Shared→Prop}{c:Value}{b:Bool}
inductive TyOf (K:PySem.W.Frag) (H:Hp):V→Value→Prop where
 | non:TyOf K H .non (.type "NoneType")
 | bl (x:Bool):TyOf K H (.bl x) (.type "bool")
 | int (i:Int):TyOf K H (.int i) (.type "int")
 | str (x:Str):TyOf K H (.str x) (.type "str")
 | flt (x:UInt64):TyOf K H (.flt x) (.type "float")
 | lst {a:Addr}{xs:List V} (e:H a=some (.lst xs)):TyOf K H (.ref a) (.type "list")
 | frz {a:Addr}{o:Obj}{xs:List V} (e:H a=some (.frz o (.lst xs))):TyOf K H (.ref a) (.type "list")
 | tup {a:Addr}{xs:List V} (e:H a=some (.tup xs)):TyOf K H (.ref a) (.type "tuple")
 | dK {a:Addr}{kvs:List (Key × V)} (e:H a=some (.dK kvs)):TyOf K H (.ref a) (.type "dict")
 | dT {a:Addr}{kvs:List (List Key × V)} (e:H a=some (.dT kvs)):TyOf K H (.ref a) (.type "dict")
 | ins {a C dx:Addr}{fs:List (Str × V)} (e:H a=some (.ins C dx fs)) (cl:Cls K C) (ha:PySem.W.findIn K (.ref C) "__class__"=some (some (.builtin "object.__class__")))
   (hn:PySem.W.specialIn K (.builtin "object.__class__") "__get__"=some (some (.builtin "getset_descriptor.__get__"))) (htk:PySem.W.takesIn K (.builtin "object.__class__")=some true)
   (hm:PySem.W.mroIn K C (.type "object")=some true):TyOf K H (.ref a) (.ref C)
theorem j7d {x:V}{u t:Value} (I:Inv X pins σ H s) (rx:RelV x u) (ty:TyOf X.K H x t) (e:PySem.W.kitOne X.K t c=some b) (h:∀ tk,Q (.bool b) { s with toks:=tk }) :
  wpAny (model X.prog X.w) A (call (.builtin "isinstance") [u,c]) Q E s:=by
 cases ty with
 | non=>cases (show u=Value.none from rx);exact PySem.W.kia_one PySem.W.kitx_none I.kIn True.intro e (fun z=>nomatch z) h
 | bl y=>cases (show u=Value.bool y from rx);exact PySem.W.kia_one PySem.W.kitx_bool I.kIn True.intro e (fun z=>nomatch z) h
 | int i=>obtain⟨t,q⟩:=(show ∃ t,u=Value.int i t from rx);cases q;exact PySem.W.kia_one PySem.W.kitx_int I.kIn True.intro e (fun z=>nomatch z) h
 | str y=>obtain⟨t,q⟩:=(show ∃ t,u=Value.str y t from rx);cases q;exact PySem.W.kia_one PySem.W.kitx_str I.kIn True.intro e (fun z=>nomatch z) h
 | flt y=>obtain⟨t,q⟩:=(show ∃ t,u=Value.float y t from rx);cases q;exact PySem.W.kia_one PySem.W.kitx_float I.kIn True.intro e (fun z=>nomatch z) h
 | @lst a xs ea =>
  cases (show u=Value.ref a from rx)
  obtain⟨_,_,n,_,h1⟩:=(show ObjOk X.prog X.w H s.heap a (.lst xs) from I.hok a _ ea)
  exact PySem.W.kia_one PySem.W.kitx_list I.kIn ⟨_,h1,rfl⟩ e (fun z=>nomatch z) h
 | @frz a ob xs ea =>
  cases (show u=Value.ref a from rx)
  obtain⟨_,_,_,n,_,h1⟩:=(show ObjOk X.prog X.w H s.heap a (.frz ob (.lst xs)) from I.hok a _ ea)
  exact PySem.W.kia_one PySem.W.kitx_list I.kIn ⟨_,h1,rfl⟩ e (fun z=>nomatch z) h
 | @tup a xs ea =>
  cases (show u=Value.ref a from rx)
  obtain⟨_,_,_,p⟩:=(show ObjOk X.prog X.w H s.heap a (.tup xs) from I.hok a _ ea)
  obtain⟨o,h1,h2,_⟩:=p.1
  exact PySem.W.kia_one PySem.W.kitx_tuple I.kIn ⟨o,h1,h2⟩ e (fun z=>nomatch z) h
 | @dK a kvs ea =>
  cases (show u=Value.ref a from rx)
  obtain⟨_,_,vs,_,p⟩:=(show ObjOk X.prog X.w H s.heap a (.dK kvs) from I.hok a _ ea)
  obtain⟨o,es,ep,h1,h2,_⟩:=p
  exact PySem.W.kia_one PySem.W.kitx_dict I.kIn ⟨o,h1,h2.1⟩ e (fun z=>nomatch z) h
 | @dT a kvs ea =>
  cases (show u=Value.ref a from rx)
  obtain⟨_,_,xs,_,o,es,ep,h1,h2,_⟩:=(show ObjOk X.prog X.w H s.heap a (.dT kvs) from I.hok a _ ea)
  exact PySem.W.kia_one PySem.W.kitx_dict I.kIn ⟨o,h1,h2.1⟩ e (fun z=>nomatch z) h
 | @ins a C dx fs ea cl ha hn htk hm =>
  cases (show u=Value.ref a from rx)
  obtain⟨mA,O,_⟩:=j7c I.hok ea
  obtain⟨od,J,_⟩:=O.look
  exact PySem.W.kia_one (PySem.W.kitx_own (cl.get _) cl.hd ha hn htk hm) I.kIn J e (fun z=>nomatch z) h
end
structure Room (k:Nat) (A:Around):Prop where
 hd:A.handled=none
 dp:A.depth+3 * k+5 < recursionLimit
 un:A.units+16 * k+200 < cLine
 gd:A.guards=some []
theorem Room.mono {j k:Nat}{A:Around} (r:Room k A) (h:j≤k):Room j A:=⟨r.hd,by have:=r.dp;omega,by have:=r.un;omega,r.gd⟩
theorem Room.deeper {k:Nat}{A:Around} (r:Room (k+1) A) (env:Env):Room k (A.deeper env) :=
 ⟨r.hd,by have:=r.dp;show A.depth+1+3 * k+5 < _;omega,by have:=r.un;show A.units+3+16 * k+200 < _;omega,r.gd⟩
theorem j91 {A:Around}{C:Addr}{us:List Value}{kw:List (Str × Value)}:(A.under (.builtin "type.__call__" ⟨.ref C :: us,kw⟩)).depth=A.depth+1:=by
 first | rfl | simp[Around.under,Code.weight,Code.isCreation,Code.isGuard,Code.isCaller,Code.frames,Code.isFrame,guardIds]
theorem j92 {A:Around}{C:Addr}{us:List Value}{kw:List (Str × Value)}:(A.under (.builtin "type.__call__" ⟨.ref C :: us,kw⟩)).units=A.units+1:=by
 first | rfl | simp[Around.under,Code.cUnits,Code.frames,Code.isFrame]
theorem j84 {A:Around}{C:Addr}{us:List Value}{kw:List (Str × Value)}:(A.under (.builtin "type.__call__" ⟨.ref C :: us,kw⟩)).guards=A.guards:=by
 have hg:(Code.builtin "type.__call__" ⟨.ref C :: us,kw⟩).guards=[]:=by first | rfl | simp[Code.guards,Code.isGuard,guardIds]
 show pushGuards (Code.builtin "type.__call__" ⟨.ref C :: us,kw⟩).guards A.guards=A.guards
 rw[hg]
 cases A.guards <;> rfl
theorem Room.make {k:Nat}{A:Around} (r:Room (k+1) A) (C:Addr) (us:List Value) (kw:List (Str × Value)):Room k (A.under (.builtin "type.__call__" ⟨.ref C :: us,kw⟩)) :=
 ⟨r.hd,by have:=r.dp;rw[j91];omega,by have:=r.un;rw[j92];omega,by rw[j84];exact r.gd⟩
theorem Room.depth {k:Nat}{A:Around} (r:Room k A):A.depth < recursionLimit:=by have:=r.dp;omega
theorem Room.units {k:Nat}{A:Around} (r:Room k A):A.units+64 < cLine:=by have:=r.un;omega
def tNil:TA:=fun _ H Q=>Q [] H
def tCons (ta:TE) (tr:TA):TA:=fun σ H Q=>ta σ H fun x H1=>tr σ H1 fun xs H2=>Q (x :: xs) H2
section
variable {X:Cx}{e:Expr}{es:List Expr}{te:TE}{t:TA}{pos:Pos}
theorem j01:PA X [] tNil:=fun _ _ _ _ H Q I h=>Calls.spliced_nil ⟨[],H,I,.nil,h⟩
theorem j00 (ha:PE X e te) (hr:PA X es t) (hs:starEach (e :: es) X.env=(false,eval e X.env) :: starEach es X.env:=by rfl):PA X (e :: es) (tCons te t):=by
 intro pos pins s σ H Q I h
 rw[hs]
 show wpAny _ _ (spliced ((false,eval e X.env) :: backTo pos (starEach es X.env))) _ _ s
 refine Calls.spliced_cons (thn (ha pins s σ H _ I h) fun u s1 ⟨x,H1,I1,r1,q1⟩=>?_)
 exact thn (hr pos pins s1 σ H1 _ I1 q1) fun us s2 ⟨xs,H2,I2,r2,q2⟩=>⟨x :: xs,H2,I2,.cons r1 r2,q2⟩
def tTup (t:TA):TE:=fun σ H Q=>t σ H fun xs H1=>xs.length≤sizeLine∧∀ p,H1 p=none→Q (.ref p) (upd H1 p (.tup xs))
def tLst (t:TA):TE:=fun σ H Q=>t σ H fun xs H1=>xs.length≤sizeLine∧∀ p,H1 p=none→Q (.ref p) (upd H1 p (.lst xs))
theorem j1h {x1} (h:PA X es t):PE X (.Tuple es x1 pos) (tTup t):=by
 intro pins s σ H Q I hq
 refine wpAny_Tuple_spliced (thn (h pos pins s σ H _ I hq) fun us s1 ⟨xs,H1,I1,r,z,q⟩=>⟨by rw[← r.length];exact z,?_⟩)
 have hf:H1 s1.heap.objs.size=none:=I1.hok.fresh (Nat.le_refl _)
 refine⟨.ref s1.heap.objs.size,upd H1 s1.heap.objs.size (.tup xs),I1.laid (t':=s1.toks) (fun b u e=>Heap.get?_push_of_some _ e) (Nat.le_refl _) ?_,rfl,q _ hf⟩
 exact⟨z,us,r,TupN.new _ _⟩
theorem j35 (h:PA X es t):PE X (.List es pos) (tLst t):=by
 intro pins s σ H Q I hq
 refine wpAny_List_spliced (thn (h pos pins s σ H _ I hq) fun us s1 ⟨xs,H1,I1,r,z,q⟩=>⟨by rw[← r.length];exact z,?_⟩)
 have hf:H1 s1.heap.objs.size=none:=I1.hok.fresh (Nat.le_refl _)
 refine⟨.ref s1.heap.objs.size,upd H1 s1.heap.objs.size (.lst xs),I1.laid (t':=s1.toks) (fun b u e=>Heap.get?_push_of_some _ e) (Nat.le_refl _) ?_,rfl,q _ hf⟩
 exact⟨z,us,0,r,Heap.get?_push_size _ rfl⟩
end
abbrev Sp:=List V→Hp→VK→XK→Prop
abbrev CXT:=List Env→Hp→Shared→XK→Value→Shared→Prop
structure Env0 (P:Program) (w:World) (K:PySem.W.Frag) (mg:Str→Option Value) (base:Heap) (A:Around) (outer:List Env) (s:Shared) (H:Hp):Prop where
 frames:A.frames=some outer
 mod:Mod K mg base
 bs:∀ b o,base.get? b=some o→s.heap.get? b=some o∧H b=none
 bsz:base.objs.size≤s.heap.objs.size
 funs:s.heap.FunFrames base outer
 frf:∀ b∈frs outer,H b=none
 hok:HOk P w H s.heap
 bare:AllBare s.gens
def CE (outer:List Env) (P:Program) (w:World) (H:Hp) (s:Shared) (Q:VK) (u:Value) (s':Shared):Prop :=
 ∃ v H',s'.os=s.os∧AllBare s'.gens∧Un (frs outer) [] H H' s.heap s'.heap∧HOk P w H' s'.heap∧RelV v u∧Q v H'
def CR (CX:CXT) (outer:List Env) (P:Program) (w:World) (H:Hp) (s:Shared) (Q:VK) (E:XK) (r:Result) (s':Shared):Prop :=
 match r with
 | .ok (.ret u)=>CE outer P w H s Q u s'
 | .ok _=>False
 | .error e=>CX outer H s E e s'
structure FnOk (P:Program) (w:World) (K:PySem.W.Frag) (mg:Str→Option Value) (base:Heap) (CX:CXT) (k:Nat) (f:Addr) (fd:FuncData) (ps:List Str) (sp:Sp):Prop where
 len:∀ vs H Q E,sp vs H Q E→vs.length=ps.length
 run:∀ (A:Around) (outer:List Env) (s:Shared) (H:Hp) (args:Args) (us:List Value) (vs:List V) (Q:VK) (E:XK),Room k A→Env0 P w K mg base A outer s H→BindsTo s fd args (ps.zip us)→Vals vs us→sp vs H Q E →
  codeAny (model P w) A (.call (.ref f) args) (CR CX outer P w H s Q E) s
theorem Env0.make {P:Program}{w:World}{K:PySem.W.Frag}{mg:Str→Option Value}{base:Heap}{A:Around}{outer:List Env}{s:Shared}{H:Hp} (e:Env0 P w K mg base A outer s H) (C:Addr) (us:List Value) (kw:List (Str × Value)) :
  Env0 P w K mg base (A.under (.builtin "type.__call__" ⟨.ref C :: us,kw⟩)) outer s H:=⟨by first | exact e.frames | (simpa[Around.under,Code.envs,Code.isFrame,pushEnvs] using e.frames),e.mod,e.bs,e.bsz,e.funs,e.frf,e.hok,e.bare⟩
section
variable {X:Cx}{pins:List (Addr × Obj)}{σ:St}{H:Hp}{s s':Shared}
theorem Inv.env0 (I:Inv X pins σ H s):Env0 X.prog X.w X.K X.mg X.base X.A X.stack s H :=
 ⟨I.ok.frames,I.ok.mod,I.bs,Nat.le_trans I.ok.bsz I.sz,I.stack,I.stkFree,I.hok,I.bare⟩
theorem Inv.after {Q:VK}{u:Value} (I:Inv X pins σ H s) (h:CE X.stack X.prog X.w H s Q u s'):EP X pins σ Q u s':=by
 obtain⟨v,H',os,bare,un,hok,r,q⟩:=h
 obtain⟨hh,g,d,t,os'⟩:=s'
 obtain rfl:os'=s.os:=os
 exact⟨v,H',I.call (h':=hh) (g':=g) (d':=d) (t':=t) (ch:=[]) un hok bare (fun b z=>absurd z (by simp)),r,q⟩
end
def tCall (sp:Sp) (dvs:List V) (E:XK) (t:TA):TE:=fun σ H Q=>t σ H fun vs H1=>sp (vs++dvs) H1 Q E
def jfq (C:Addr) (m:Str) (sp:Sp) (dvs:List V) (E:XK) (ta:TE) (t:TA):TE:=fun σ H Q=>ta σ H fun x H1=>∃ a dx fs,x=.ref a∧H1 a=some (.ins C dx fs)∧fs.lookup m=none ∧
 t σ H1 fun vs H2=>sp (x :: (vs++dvs)) H2 Q E
def tMake (C:Addr) (sp:Sp) (dvs:List V) (E:XK) (t:TA):TE:=fun σ H Q=>t σ H fun vs H1=>∀ x dx,H1 x=none→H1 dx=none→dx≠x →
 sp (.ref x :: (vs++dvs)) (upd (upd H1 dx (.own x)) x (.ins C dx [])) (fun v H2=>v=.non∧Q (.ref x) H2) E
def Binds (K:PySem.W.Frag) (fd:FuncData) (ps:List Str) (ds:List Value):Prop :=
 ∀ (s:Shared) (us:List Value),K.In s.heap→(us++ds).length=ps.length→BindsTo s fd ⟨us,[]⟩ (ps.zip (us++ds))
theorem Binds.all {K:PySem.W.Frag}{fd:FuncData}{ps:List Str} (h:∀ us:List Value,us.length=ps.length→bindArgs fd ⟨us,[]⟩=pure (ps.zip us)):Binds K fd ps []:=fun s us _ hl=>by
 rw[List.append_nil] at hl ⊢
 exact .of_eq (h us hl)
def j50 (CX:CXT) (X:Cx) (E:XK):Prop:=∀ (pins:List (Addr × Obj)) (σ:St) (H:Hp) (s:Shared) (e:Value) (s':Shared),Inv X pins σ H s→CX X.stack H s E e s'→X.xe e s'
section
variable {X:Cx}{CX:CXT}{k:Nat}{f C:Addr}{fd:FuncData}{ps:List Str}{sp:Sp}{dvs:List V}{ds:List Value}{E:XK}{x m:Str}{p pos apos:Pos}{e o:Expr}{es:List Expr}{ta:TE}{t:TA}
theorem jaf {pins:List (Addr × Obj)}{σ:St}{H:Hp}{s:Shared}{Q:VK}{us:List Value}{vs:List V} (F:FnOk X.prog X.w X.K X.mg X.base CX k f fd ps sp) (hr:Room k X.A) (hb:Binds X.K fd ps ds) (hd:Vals dvs ds) (hx:j50 CX X E)
  (I:Inv X pins σ H s) (r:Vals vs us) (h:sp (vs++dvs) H Q E):wpAny (model X.prog X.w) X.A (call (.ref f) us) (EP X pins σ Q) X.xe s:=by
 have r2:Vals (vs++dvs) (us++ds):=r.append hd
 have hl:(us++ds).length=ps.length:=by rw[← r2.length];exact F.len _ _ _ _ h
 refine wpAny_call (codeAny_mono (F.run X.A X.stack s H ⟨us,[]⟩ (us++ds) (vs++dvs) Q E hr I.env0 (hb s us I.kIn hl) r2 h) fun r s' hq=>?_)
 cases r with
 | error e=>exact hx pins σ H s e s' I hq
 | ok fl =>
  cases fl with
  | ret u=>exact I.after hq
  | next=>exact False.elim hq
  | brk=>exact False.elim hq
  | cont=>exact False.elim hq
theorem j0f (F:FnOk X.prog X.w X.K X.mg X.base CX k f fd ps sp) (hr:Room k X.A) (hg:Gl X x) (hm:X.mg x=some (.ref f)) (hk:PySem.W.keepIn X.K (.ref f)=true) (hb:Binds X.K fd ps ds) (hd:Vals dvs ds) (hx:j50 CX X E)
  (ha:PA X (e :: es) t) (hdb:(x == ("__debug__":Str))=false:=by decide) (he:starEach (e :: es) X.env=(false,eval e X.env) :: starEach es X.env:=by rfl) (hpl:(backTo pos (starEach es X.env)).any (·.1)=false:=by rfl) :
  PE X (.Call (.Name x p) (e :: es) [] pos) (tCall sp dvs E t):=by
 intro pins s σ H Q I h
 refine wpAny_Call_Name_kw (j8p I hg hm ?_ hdb)
 refine PySem.W.callWith_K (h₀:=X.base) I.ok.mod.kin hk (thn (ha pos pins s σ H _ I h) fun us s1 ⟨vs,H1,I1,r,q⟩=>⟨I1.kIn,?_⟩) he hpl
 exact jaf F hr hb hd hx I1 r q
theorem j0e {pl:Sem Bool} (he:PE X o ta) (c:Cls X.K C) (hm:Meth X.K C m f) (F:FnOk X.prog X.w X.K X.mg X.base CX k f fd ps sp) (hr:Room k X.A) (hb:Binds X.K fd ps ds) (hd:Vals dvs ds) (hx:j50 CX X E) (ha:PA X (e :: es) t)
  (hst:starEach (e :: es) X.env=(false,eval e X.env) :: starEach es X.env:=by rfl) (hpl:(backTo pos (starEach es X.env)).any (·.1)=false:=by rfl)
  (ht:eval (.Call (.Attribute o m apos) (e :: es) [] pos) X.env=(do
   let ov ← eval o X.env
   standAt apos.atName
   let (f,first) ← holding [ov] (getMethod ov m pl)
   callWith pos f first (backTo pos (starEach (e :: es) X.env)) (backToKw pos (keywordEach [] X.env))):=by rfl) :
  PE X (.Call (.Attribute o m apos) (e :: es) [] pos) (jfq C m sp dvs E ta t):=by
 intro pins s σ H Q I h
 refine PySem.W.methodCall_KW (pl:=pl) (thn (he pins s σ H _ I h) fun u s1 ⟨x,H1,I1,rx,a,dx,fs,ex,ea,l,q⟩=>?_) ht
 subst ex
 obtain rfl:u=Value.ref a:=rx
 refine j5j I1 ea c hm l ?_
 refine PySem.W.callWith_K (first:=[.ref a]) (h₀:=X.base) I.ok.mod.kin hm.kp (thn (ha pos pins s1 σ H1 _ I1 q) fun us s2 ⟨vs,H2,I2,r,q2⟩=>⟨I2.kIn,?_⟩) hst hpl
 exact jaf (us:=.ref a :: us) (vs:=.ref a :: vs) F hr hb hd hx I2 (.cons rfl r) q2
theorem j0b {pl:Sem Bool} (he:PE X o ta) (c:Cls X.K C) (hm:Meth X.K C m f) (F:FnOk X.prog X.w X.K X.mg X.base CX k f fd ps sp) (hr:Room k X.A) (hb:Binds X.K fd ps ds) (hd:Vals dvs ds) (hx:j50 CX X E)
  (ht:eval (.Call (.Attribute o m apos) [] [] pos) X.env=(do
   let ov ← eval o X.env
   standAt apos.atName
   let (f,first) ← holding [ov] (getMethod ov m pl)
   callWith pos f first (backTo pos (starEach [] X.env)) (backToKw pos (keywordEach [] X.env))):=by rfl) :
  PE X (.Call (.Attribute o m apos) [] [] pos) (jfq C m sp dvs E ta tNil):=by
 intro pins s σ H Q I h
 refine PySem.W.methodCall_KW (pl:=pl) (thn (he pins s σ H _ I h) fun u s1 ⟨x,H1,I1,rx,a,dx,fs,ex,ea,l,q⟩=>?_) ht
 subst ex
 obtain rfl:u=Value.ref a:=rx
 refine j5j I1 ea c hm l ?_
 exact PySem.W.callWith_K0 (first:=[.ref a]) I1.kIn hm.kp (jaf (us:=[.ref a]) (vs:=[.ref a]) F hr hb hd hx I1 (.cons rfl .nil) q)
structure Mk (K:PySem.W.Frag) (C f:Addr):Prop where
 makes:PySem.W.makesIn K C=true
 init:PySem.W.findIn K (.ref C) "__init__"=some (some (.ref f))
 fn:PySem.W.isFn K (.ref f)=true
 kp:PySem.W.keepIn K (.ref C)=true
theorem jc7 {pins:List (Addr × Obj)}{σ:St}{H:Hp}{s:Shared}{Q:VK}{us:List Value}{vs:List V} (M:Mk X.K C f) (F:FnOk X.prog X.w X.K X.mg X.base CX k f fd ps sp) (hr:Room (k+1) X.A) (hb:Binds X.K fd ps ds) (hd:Vals dvs ds)
  (hx:j50 CX X E) (I:Inv X pins σ H s) (r:Vals vs us)
  (h:∀ x dx,H x=none→H dx=none→dx≠x→sp (.ref x :: (vs++dvs)) (upd (upd H dx (.own x)) x (.ins C dx [])) (fun v H2=>v=.non∧Q (.ref x) H2) E) :
  wpAny (model X.prog X.w) X.A (call (.ref C) us) (EP X pins σ Q) X.xe s:=by
 have hq:=h (s.heap.objs.size+1) s.heap.objs.size (I.hok.fresh (Nat.le_succ _)) (I.hok.fresh (Nat.le_refl _)) (Nat.ne_of_lt (Nat.lt_succ_self _))
 have I2:=Inv.made (C:=C) I
 have r2:Vals (V.ref (s.heap.objs.size+1) :: (vs++dvs)) (Value.ref (s.heap.objs.size+1) :: (us++ds)):=.cons rfl (r.append hd)
 have hl:(Value.ref (s.heap.objs.size+1) :: us++ds).length=ps.length:=by
  have e:=r2.length
  rw[F.len _ _ _ _ hq] at e
  exact e.symm
 refine wpAny_call (jc6 (f:=f) I.kIn M.makes M.init (beq_iff_eq.mp M.fn) (codeAny_mono (F.run _ X.stack _ _ ⟨Value.ref (s.heap.objs.size+1) :: us,[]⟩ (Value.ref (s.heap.objs.size+1) :: (us++ds)) _ _ E (hr.make C us [])
  (I2.env0.make C us []) (hb _ (Value.ref (s.heap.objs.size+1) :: us) I2.kIn hl) r2 hq) fun r s' hq'=>?_))
 cases r with
 | error e=>exact hx pins σ _ _ e s' I2 hq'
 | ok fl =>
  cases fl with
  | ret u =>
   obtain⟨v,H',I3,rv,ev,q3⟩:=I2.after hq'
   subst ev
   exact⟨rv,⟨V.ref (s.heap.objs.size+1),H',I3,rfl,q3⟩⟩
  | next=>exact False.elim hq'
  | brk=>exact False.elim hq'
  | cont=>exact False.elim hq'
theorem j18 (M:Mk X.K C f) (F:FnOk X.prog X.w X.K X.mg X.base CX k f fd ps sp) (hr:Room (k+1) X.A) (hg:Gl X x) (hm:X.mg x=some (.ref C)) (hb:Binds X.K fd ps ds) (hd:Vals dvs ds) (hx:j50 CX X E)
  (ha:PA X (e :: es) t) (hdb:(x == ("__debug__":Str))=false:=by decide) (he:starEach (e :: es) X.env=(false,eval e X.env) :: starEach es X.env:=by rfl) (hpl:(backTo pos (starEach es X.env)).any (·.1)=false:=by rfl) :
  PE X (.Call (.Name x p) (e :: es) [] pos) (tMake C sp dvs E t):=by
 intro pins s σ H Q I h
 refine wpAny_Call_Name_kw (j8p I hg hm ?_ hdb)
 refine PySem.W.callWith_K (h₀:=X.base) I.ok.mod.kin M.kp (thn (ha pos pins s σ H _ I h) fun us s1 ⟨vs,H1,I1,r,q⟩=>⟨I1.kIn,?_⟩) he hpl
 exact jc7 M F hr hb hd hx I1 r q
end
section
variable {X:Cx}{CX:CXT}{k:Nat}{f C:Addr}{fd:FuncData}{ps ks:List Str}{sp:Sp}{E:XK}{x m:Str}{p pos apos kpos:Pos}{e o:Expr}{es:List Expr}{kws:List Keyword}{te ta:TE}{t tk:TA}{nm:Option Str}
structure KBinds (K:PySem.W.Frag) (fd:FuncData) (ps ks:List Str) (g:List Value→List Value→List Value) (gV:List V→List V→List V):Prop where
 to:∀ (s:Shared) (us ws:List Value),K.In s.heap→(g us ws).length=ps.length→BindsTo s fd ⟨us,ks.zip ws⟩ (ps.zip (g us ws))
 rel:∀ {vs:List V}{us:List Value}{zs:List V}{ws:List Value},Vals vs us→Vals zs ws→Vals (gV vs zs) (g us ws)
variable {g:List Value→List Value→List Value}{gV:List V→List V→List V}
end
structure FnScope (N P:List Str) (sc:Scope):Prop where
 kind:sc.kind=.function
 co:sc.isCoroutine=false
 gen:sc.isGenerator=false
 nd:N.Nodup
 pre:N.take P.length=P
 par:∀ x∈P,sc.names.lookup x=some .local∨sc.names.lookup x=some .cell
 nofree:∀ y∈sc.names,y.2≠.free
theorem j7e {kindOf:Str→Option NameKind}{x:Str}:∀ {binds:List (Str × Value)}{m:Str→Option Value},(∀ v,(x,v)∉binds)→bindL kindOf binds m x=m x
 | [],_,_=>rfl
 | (n,v) :: r,m,h=>by
  unfold bindL
  rw[j7e fun w hw=>h w (List.mem_cons_of_mem _ hw)]
  split
  ·have:x≠n:=by rintro rfl;exact h v List.mem_cons_self
   simp[this]
  ·rfl
theorem j7f {kindOf:Str→Option NameKind}{x:Str}:∀ {binds:List (Str × Value)}{m:Str→Option Value},(∀ v,(x,v)∉binds)→bindC kindOf binds m x=m x
 | [],_,_=>rfl
 | (n,v) :: r,m,h=>by
  unfold bindC
  rw[j7f fun w hw=>h w (List.mem_cons_of_mem _ hw)]
  split
  ·rfl
  ·have:x≠n:=by rintro rfl;exact h v List.mem_cons_self
   simp[this]
theorem j7g {kindOf:Str→Option NameKind}{x:Str}{v:Value}:∀ {P:List Str}{vs:List Value}{i:Nat}{m:Str→Option Value},P.Nodup→P[i]?=some x→vs[i]?=some v→kindOf x=some .local →
  bindL kindOf (P.zip vs) m x=some v
 | [],_,_,_,_,h,_,_=>by simp at h
 | _ :: _,[],_,_,_,_,h,_=>by simp at h
 | p :: P,w :: vs,0,m,nd,h1,h2,hk=>by
  simp at h1 h2;subst h1;subst h2
  show bindL kindOf ((p,w) :: P.zip vs) m p=_
  unfold bindL
  rw[j7e fun v hv=>(List.nodup_cons.mp nd).1 (List.of_mem_zip hv).1,if_pos hk]
  simp
 | p :: P,w :: vs,i+1,m,nd,h1,h2,hk=>by
  show bindL kindOf ((p,w) :: P.zip vs) m x=_
  unfold bindL
  exact j7g (i:=i) (List.nodup_cons.mp nd).2 (by simpa using h1) (by simpa using h2) hk
theorem j7h {kindOf:Str→Option NameKind}{x:Str}{v:Value}:∀ {P:List Str}{vs:List Value}{i:Nat}{m:Str→Option Value},P.Nodup→P[i]?=some x→vs[i]?=some v→kindOf x≠some .local →
  bindC kindOf (P.zip vs) m x=some v
 | [],_,_,_,_,h,_,_=>by simp at h
 | _ :: _,[],_,_,_,_,h,_=>by simp at h
 | p :: P,w :: vs,0,m,nd,h1,h2,hk=>by
  simp at h1 h2;subst h1;subst h2
  show bindC kindOf ((p,w) :: P.zip vs) m p=_
  unfold bindC
  rw[j7f fun v hv=>(List.nodup_cons.mp nd).1 (List.of_mem_zip hv).1,if_neg hk]
  simp
 | p :: P,w :: vs,i+1,m,nd,h1,h2,hk=>by
  show bindC kindOf ((p,w) :: P.zip vs) m x=_
  unfold bindC
  exact j7h (i:=i) (List.nodup_cons.mp nd).2 (by simpa using h1) (by simpa using h2) hk
def start (N:List Str) (vs:List V):St:=vs.map some++List.replicate (N.length-vs.length) none
def cxOf (CX:CXT) (P:Program) (w:World) (K:PySem.W.Frag) (mg:Str→Option Value) (base:Heap) (N:List Str) (qual:Str) (scope:Scope) (f:Addr) (cd:Value) (A:Around) (outer:List Env) (s:Shared) (H:Hp) (E:XK):Cx where
 prog:=P
 w:=w
 K:=K
 mg:=mg
 base:=base
 A:=A.deeper (envOfC qual scope s.heap.objs.size f cd)
 N:=N
 s₀:=s
 H₀:=H
 env:=envOfC qual scope s.heap.objs.size f cd
 outer:=outer
 stack:=envOfC qual scope s.heap.objs.size f cd :: outer
 ex:=[]
 calm:=true
 fn:=fun _=>true
 pn:=[]
 xe:=fun e s'=>wpAny (model P w) (A.deeper (envOfC qual scope s.heap.objs.size f cd)) (leaving (envOfC qual scope s.heap.objs.size f cd) e) (fun _ s''=>CX outer H s E e s'') (fun e' s''=>CX outer H s E e' s'') s'
theorem j93 {sc:Scope}{n:Nat}{x:Str} (h:sc.names.lookup x=some .cell):∃ c,(cellsFrom n sc.names []).lookup x=some c:=by
 have q:=PySem.W.cellsFrom_some sc.names n [] (.inl h)
 exact Option.isSome_iff_exists.mp q
theorem jag {CX:CXT}{P:Program}{w:World}{K:PySem.W.Frag}{mg:Str→Option Value}{base:Heap}{N ps:List Str}{qual:Str}{scope:Scope}{f:Addr}{cd:Value}{A:Around}{outer:List Env}{s s1:Shared}{H:Hp}{E:XK}{us:List Value}{vs:List V}
  (S:FnScope N ps scope) (hd:A.handled=none) (e0:Env0 P w K mg base A outer s H) (hl:vs.length=ps.length) (r:Vals vs us)
  (x:InCallC s s.heap.objs.size (bindL (envOfC qual scope s.heap.objs.size f cd).kindOf (ps.zip us) fun _=>none) (cellsFrom (s.heap.objs.size+1) scope.names []) (bindC (envOfC qual scope s.heap.objs.size f cd).kindOf (ps.zip us) fun _=>none) s1) :
  Inv (cxOf CX P w K mg base N qual scope f cd A outer s H E) [] (start N vs) H s1:=by
 have hpl:ps.length≤N.length:=by have:=congrArg List.length S.pre;rw[List.length_take] at this;omega
 obtain⟨h1,tk,rfl,hk⟩:=x.done
 have noA:∀ b:Addr,b∉(cxOf CX P w K mg base N qual scope f cd A outer s H E).ex:=fun b z=>absurd (show b∈([]:List Addr) from z) (by simp)
 refine⟨⟨e0.mod,S.kind,rfl,rfl,Nat.le_refl _,fun y z c h1 h2=>?_,fun y hy=>?_,fun y c _ h=>?_,fun _=>hd,Around.frames_deeper e0.frames,.inr ⟨rfl,rfl⟩,fun b z=>absurd z (noA b),e0.bs,e0.bsz,fun b _ _=>noA b,fun b z=>absurd z (noA b),e0.funs,e0.frf⟩,
  rfl,e0.bare,Un.kept hk,⟨_,x.toInCall.ns,fun i y v h1 h2 h3=>?_⟩,fun y c h=>⟨_,x.cell y c h⟩,e0.hok.fresh (Nat.le_refl _),fun y c h=>?_,fun p hp=>absurd (show p∈([]:List (Addr × Obj)) from hp) (by simp),e0.hok.kept hk,?_⟩
 ·exact name_of_addr x.apart (PySem.mem_of_lookup h1) (PySem.mem_of_lookup h2)
 ·have hy:scope.names.lookup y=some .cell∨scope.names.lookup y=some .free:=hy
  rcases hy with hy | hy
  ·exact j93 hy
  ·exact absurd rfl (S.nofree _ (PySem.mem_of_lookup hy))
 ·exact Nat.le_of_lt (x.above y c (PySem.mem_of_lookup h))
 ·have hi:i < vs.length:=by
   unfold start at h2
   by_cases hi:i < vs.length
   ·exact hi
   ·rw[List.getElem?_append_right (by simpa using hi)] at h2
    rw[List.getElem?_replicate] at h2
    split at h2 <;> cases h2
  have ha:vs[i]?=some v:=by
   unfold start at h2
   rw[List.getElem?_append_left (by simpa using hi),List.getElem?_map] at h2
   cases e:vs[i]? with
   | none=>rw[e] at h2;cases h2
   | some a=>rw[e] at h2;cases h2;rfl
  obtain⟨u,hu,rv⟩:=r.get ha
  have hp:ps[i]?=some y:=by
   rw[← S.pre,List.getElem?_take_of_lt (by omega)];exact h1
  have ndP:ps.Nodup:=by rw[← S.pre];exact S.nd.sublist (List.take_sublist _ _)
  refine⟨u,rv,?_⟩
  rcases S.par y (List.mem_of_getElem? hp) with k | k
  ·exact .inl ⟨k,j7g ndP hp hu k⟩
  ·obtain⟨c,e⟩:=j93 (n:=s.heap.objs.size+1) k
   refine .inr ⟨.inl k,c,e,?_⟩
   have q:=x.cell y c e
   rw[j7h ndP hp hu (by show scope.names.lookup y≠_;rw[k];decide)] at q
   exact q
 ·exact e0.hok.fresh (Nat.le_of_lt (x.above y c (PySem.mem_of_lookup h)))
 ·unfold start
  show _=N.length
  rw[List.length_append,List.length_map,List.length_replicate]
  omega
theorem fn_of {CX:CXT}{P:Program}{w:World}{K:PySem.W.Frag}{mg:Str→Option Value}{base:Heap}{k:Nat}{f:Addr}{name qual:Str}{params:Arguments}{body:List Stmt}{scope:Scope}{dV kV doc pm cdv ct oc:Value}{an od:Option Addr}
  {osl:Array (Option Value)}{N ps:List Str}{sp:Sp} (lk:K.lookup f=some ⟨oc,od,.func (PySem.W.fnOf name qual params body scope dV kV doc pm an cdv ct),osl⟩) (hcd:PySem.W.codeIn K cdv qual=true) (S:FnScope N ps scope)
  (len:∀ vs H Q E,sp vs H Q E→vs.length=ps.length)
  (hbody:∀ (A:Around) (outer:List Env) (s:Shared) (H:Hp) (vs:List V) (Q:VK) (E:XK),Room k (A.deeper (envOfC qual scope s.heap.objs.size f cdv))→sp vs H Q E →
   ∃ t,PSs (cxOf CX P w K mg base N qual scope f cdv A outer s H E) body t∧t { nx:=fun _ H'=>Q .non H',rt:=Q } (start N vs) H) :
  FnOk P w K mg base CX (k+1) f (PySem.W.fnOf name qual params body scope dV kV doc pm an cdv ct) ps sp:=by
 refine⟨len,fun A outer s H args us vs Q E hr e0 hb r hsp=>?_⟩
 have hl:=len _ _ _ _ hsp
 have KX:K.In s.heap:=e0.mod.kin.keeps fun b o e=>(e0.bs b o e).1
 have lim:s.heap.NoLimit:=e0.mod.nolimit.keeps fun b o e=>(e0.bs b o e).1
 have hkind:∀ y∈ps.zip us,scope.names.lookup y.1=some .local∨(scope.names.lookup y.1=some .cell∧((cellsFrom (s.heap.objs.size+1) scope.names []).lookup y.1).isSome=true):=fun⟨n,v⟩ hy=>by
  rcases S.par n (List.of_mem_zip hy).1 with q | q
  ·exact .inl q
  ·exact .inr ⟨q,PySem.W.cellsFrom_some _ _ _ (.inl q)⟩
 refine codeAny_call_function hr.depth (KX _ _ lk) rfl S.co S.gen rfl (PySem.W.codeRec_of KX hcd) (hb _ _ _ _ ?_)
 refine wpAny_newFunctionEnv_cells S.kind hkind fun env he s1 x=>?_
 subst he
 refine⟨lim.keeps x.toInCall.keep,codeAny_func ?_⟩
 obtain⟨t,ht,hq⟩:=hbody A outer s H vs Q E (hr.deeper _) hsp
 have I:Inv (cxOf CX P w K mg base N qual scope f cdv A outer s H E) [] (start N vs) H s1:=jag S hr.hd e0 hl r x
 refine wpAny_mono (ht [] s1 (start N vs) H _ I hq) (fun fl s' hs=>?_) fun e s' hs=>hs
 have fin:∀ {σ':St}{H':Hp}{v:V}{u:Value},Inv (cxOf CX P w K mg base N qual scope f cdv A outer s H E) [] σ' H' s'→RelV v u→Q v H'→CE outer P w H s Q u s' :=
  fun {σ' H' v u} J rv q=>⟨v,H',J.os,J.bare,J.base,J.hok,rv,q⟩
 cases fl with
 | ret u =>
  obtain⟨v,σ',H',J,rv,q⟩:=hs
  exact fin J rv q
 | next =>
  obtain⟨σ',H',J,q⟩:=hs
  exact fin (v:=V.non) (u:=Value.none) J rfl q
 | brk =>
  obtain⟨_,_,_,q⟩:=hs
  exact False.elim q
 | cont =>
  obtain⟨_,_,_,q⟩:=hs
  exact False.elim q
section
variable {X:Cx}{x:Str}{p pos:Pos}{e:Expr}{es:List Expr}{t:TA}{id T:String}{r:List V→Hp→VK→Prop}
def tCB (r:List V→Hp→VK→Prop) (t:TA):TE:=fun σ H Q=>t σ H fun vs H1=>r vs H1 Q
theorem j07 (hc:CallR X (.builtin id) r) (hg:Gl X x) (hm:X.mg x=none) (hv:bootBuiltins x=some (.builtin id)) (ha:PA X (e :: es) t) (hn:x≠"__name__":=by decide) (hdb:(x == ("__debug__":Str))=false:=by decide)
  (he:starEach (e :: es) X.env=(false,eval e X.env) :: starEach es X.env:=by rfl) (hpl:(backTo pos (starEach es X.env)).any (·.1)=false:=by rfl):PE X (.Call (.Name x p) (e :: es) [] pos) (tCB r t):=by
 intro pins s σ H Q I h
 refine wpAny_Call_Name_kw (j6b I hg hm hv ?_ hn hdb)
 exact PyProof.Rows.callWith_builtin1 (thn (ha pos pins s σ H _ I h) fun us s1 ⟨vs,H1,I1,r1,q1⟩=>hc pins s1 σ H1 vs us Q I1 r1 q1) he hpl
theorem j0r (hc:CallR X (.type T) r) (hg:Gl X x) (hm:X.mg x=none) (hv:bootBuiltins x=some (.type T)) (ha:PA X (e :: es) t) (hn:x≠"__name__":=by decide) (hdb:(x == ("__debug__":Str))=false:=by decide)
  (he:starEach (e :: es) X.env=(false,eval e X.env) :: starEach es X.env:=by rfl) (hpl:(backTo pos (starEach es X.env)).any (·.1)=false:=by rfl):PE X (.Call (.Name x p) (e :: es) [] pos) (tCB r t):=by
 intro pins s σ H Q I h
 refine wpAny_Call_Name_kw (j6b I hg hm hv ?_ hn hdb)
 exact PyProof.Rows.callWith_type1 (thn (ha pos pins s σ H _ I h) fun us s1 ⟨vs,H1,I1,r1,q1⟩=>hc pins s1 σ H1 vs us Q I1 r1 q1) he hpl
end
end L2
namespace HT
open PySem PyProof.Rows
section
open PySem.SeqAt
open PySem.AutoSeq1 (wpAny_loadPart')
open PySem.MeetsSeq PySem.MeetsSeq2 PySem.MeetsSeq3
end
section
variable {prog:Program}{w:World}{A:Around}{E:Value→Shared→Prop}{s:Shared}
theorem cat_tup {t b:Addr}{vs ws:List Value}{Q:Value→Shared→Prop} (ht:IsTup s.heap t vs.toArray) (hb:IsTup s.heap b ws.toArray) (hv:vs≠[])
  (h1:ws=[]→Q (.ref t) s) (h2:ws≠[]→Q (.ref s.heap.objs.size) { s with heap:=s.heap.push { cls:=.type "tuple",data:=.seq (vs++ws).toArray } })
  (hsz:vs.length+ws.length≤sizeLine):wpAny (model prog w) A (binaryOp .Add (.ref t) (.ref b)) Q E s:=by
 obtain⟨⟨cls,dd,data,sl⟩,ho,hc,n,hd⟩:=id ht
 obtain⟨⟨cls2,dd2,data2,sl2⟩,ho2,hc2,n2,hd2⟩:=id hb
 simp only at hc hd hc2 hd2
 subst hc hd hc2 hd2
 have e:vs.toArray++ws.toArray=(vs++ws).toArray:=by simp
 by_cases hw:ws=[]
 ·exact concat_meets ⟨_,ho,rfl⟩ ⟨_,ho2,rfl⟩ noFill_tuple_add seq_tuple_add PySem.F.slot_tuple_add PySem.F.entry_tuple_add (PySem.F.args_tuple_add_2 _ _)
   (tuple_addW1 t b vs.toArray ws.toArray n n2 dd dd2 sl sl2 (by simpa using hv) (by simp[hw])) ⟨ho,ho2,h1 hw⟩
 ·refine concat_meets ⟨_,ho,rfl⟩ ⟨_,ho2,rfl⟩ noFill_tuple_add seq_tuple_add PySem.F.slot_tuple_add PySem.F.entry_tuple_add (PySem.F.args_tuple_add_2 _ _)
   (tuple_addW2 t b vs.toArray ws.toArray n n2 dd dd2 sl sl2 (by simpa using hv) (by simpa using hw) (by rw[List.size_toArray,List.size_toArray];exact hsz)) ⟨ho,ho2,?_⟩
  rw[e]
  exact h2 hw
def sIx (n d:Nat):Option Int→Nat
 | none=>d
 | some v=>if v < 0 then (v+(n:Int)).toNat else min v.toNat n
theorem sIx_none (n d:Nat):sIx n d none=d:=rfl
theorem sIx_nat (n d k:Nat):sIx n d (some (k:Int))=min k n:=by
 show (if (k:Int) < 0 then ((k:Int)+(n:Int)).toNat else min (k:Int).toNat n)=min k n
 rw[if_neg (by omega),Int.toNat_natCast]
theorem sIx_le (n d:Nat) (hd:d≤n) (o:Option Int):sIx n d o≤n:=by
 cases o with
 | none=>exact hd
 | some v =>
  show (if v < 0 then (v+(n:Int)).toNat else min v.toNat n)≤n
  by_cases hv:v < 0
  ·rw[if_pos hv];omega
  ·rw[if_neg hv];exact Nat.min_le_right _ _
theorem jbg (v:Int) (n d:Nat):(if v < 0 then max (v+(n:Int)) 0 else min v (n:Int))=((sIx n d (some v):Nat):Int):=by
 show (if v < 0 then max (v+(n:Int)) 0 else min v (n:Int))=(((if v < 0 then (v+(n:Int)).toNat else min v.toNat n):Nat):Int)
 by_cases hv:v < 0
 ·simp only[if_pos hv];omega
 ·simp only[if_neg hv];omega
theorem j94 (lo hi:Option Int) (n:Nat):Builtin.Slice.sliceAdjust lo hi 1 (n:Int)=(((sIx n 0 lo:Nat):Int),((sIx n n hi:Nat):Int)):=by
 have h1:¬ ((1:Int) < 0):=by omega
 unfold Builtin.Slice.sliceAdjust
 simp only[h1,if_false]
 refine Prod.ext ?_ ?_
 ·cases lo with
  | none=>rfl
  | some v=>exact jbg v n 0
 ·cases hi with
  | none=>rfl
  | some v=>exact jbg v n n
theorem j95 (i j:Nat):Builtin.Slice.slicePlaces (i:Int) (j:Int) 1=j-i:=by
 unfold Builtin.Slice.slicePlaces
 have h1:(1:Int) > 0:=by omega
 simp only[h1,if_true,Int.ediv_one]
 split <;> omega
theorem j5k {v:Value}{o:Option Int}{Q:Option Int→Shared→Prop} (p:IsPart v o) (h:Q o s):wpAny (model prog w) A (Builtin.Slice.slicePartIndex v) Q E s:=by
 cases p with
 | none=>exact slicePart_none h
 | int i t=>exact slicePart_int h
theorem j3g {sl:Addr}{vl vu:Value}{lo hi:Option Int}{n:Nat}{Q:Int × Int × Nat→Shared→Prop} (hs:s.heap.IsSliceOf sl vl vu .none) (pl:IsPart vl lo) (pu:IsPart vu hi)
  (h:Q (((sIx n 0 lo:Nat):Int),1,sIx n n hi-sIx n 0 lo) s):wpAny (model prog w) A (Builtin.Slice.sliceApplied (.ref sl) (pure (n:Int))) Q E s:=by
 obtain⟨os,hos,hcs,hds⟩:=id hs
 unfold Builtin.Slice.sliceApplied Builtin.Slice.sliceFields
 refine wpAny_bind (wpAny_bind (wpAny_field hos hds (x:=vl) rfl (wpAny_bind (wpAny_field hos hds (x:=vu) rfl (wpAny_bind (wpAny_field hos hds (x:=.none) rfl (wpAny_pure ?_)))))))
 refine wpAny_bind (slicePart_none ?_)
 show wpAny _ _ (if ((1:Int) == 0)=true then _ else _) _ _ s
 rw[if_neg (by decide)]
 refine wpAny_bind (j5k pl (wpAny_bind (j5k pu (wpAny_bind (wpAny_pure ?_)))))
 show wpAny _ _ (match Builtin.Slice.sliceAdjust lo hi 1 (n:Int) with | (lo,hi)=>pure (lo,(1:Int),Builtin.Slice.slicePlaces lo hi 1)) _ _ s
 rw[j94 lo hi n]
 show wpAny _ _ (pure (((sIx n 0 lo:Nat):Int),(1:Int),Builtin.Slice.slicePlaces ((sIx n 0 lo:Nat):Int) ((sIx n n hi:Nat):Int) 1)) _ _ s
 rw[j95]
 exact wpAny_pure h
theorem jc8 (xs:Array Value) (i k:Nat):((List.range k).filterMap fun (m:Nat)=>xs[((i:Int)+(m:Int) * 1).toNat]?).toArray=((xs.toList.drop i).take k).toArray:=by
 have e:(fun (m:Nat)=>xs[((i:Int)+(m:Int) * 1).toNat]?)=fun m=>xs[i+m]?:=by
  funext m
  have:((i:Int)+(m:Int) * 1).toNat=i+m:=by omega
  rw[this]
 rw[e]
 have:=pick_run xs i k
 rw[List.filterMap_map] at this
 have e2:((fun x=>xs[x]?) ∘ fun x=>i+x)=fun m=>xs[i+m]?:=rfl
 rw[e2] at this
 rw[this]
theorem getItem_tuple_cut {t sl:Addr}{items:Array Value}{vl vu:Value}{lo hi:Option Int}{Q:Value→Shared→Prop} (ht:IsTup s.heap t items) (hs:s.heap.IsSliceOf sl vl vu .none) (pl:IsPart vl lo) (pu:IsPart vu hi)
  (hw:¬ (sIx items.size 0 lo=0∧sIx items.size items.size hi=items.size))
  (h:Q (.ref s.heap.objs.size) { s with heap:=s.heap.push { cls:=.type "tuple",data:=.seq ((items.toList.drop (sIx items.size 0 lo)).take (sIx items.size items.size hi-sIx items.size 0 lo)).toArray } })
  (hsz:items.size≤sizeLine):wpAny (model prog w) A (getItem (.ref t) (.ref sl)) Q E s:=by
 have htake:sizeOk (.seq ((items.toList.drop (sIx items.size 0 lo)).take (sIx items.size items.size hi-sIx items.size 0 lo)).toArray):=by
  show ((items.toList.drop (sIx items.size 0 lo)).take (sIx items.size items.size hi-sIx items.size 0 lo)).toArray.size≤sizeLine
  rw[List.size_toArray,List.length_take,List.length_drop,Array.length_toList]
  omega
 have hj:sIx items.size items.size hi≤items.size:=sIx_le _ _ (Nat.le_refl _) hi
 obtain⟨os,hos,hcs,hds⟩:=id hs
 have hTs:s.TypeIs (.ref sl) "slice":=⟨os,hos,hcs⟩
 unfold getItem
 try with_reducible refine wpAny_holding ?_
 first | refine wpAny_bind (wpAny_pure ?_) | skip
 refine wpAny_bind (wpAny_sequenceKey ht.typeIs (by decide) ?_)
 refine wpAny_bind (wpAny_callSpecial?_slot (name:=Str.ofString "__getitem__") ht.typeIs PyProof.Rows.slot_tuple_getitem
  (wpAny_call_entry PyProof.Rows.slot_tuple_getitem ht.typeIs entry_tuple_getitem ?_ (args_tuple_getitem _ _)))
 show wpAny _ _ (Builtin.Tuple.tupleItemsOf (.ref t) >>= _) _ _ s
 refine wpAny_bind (tupleItemsOf_ ht ?_)
 refine wpAny_bind (wpAny_typeOf hTs ?_)
 rw[if_pos (by decide)]
 refine wpAny_bind (j3g hs pl pu ?_)
 have hno:¬ ((((sIx items.size 0 lo:Nat):Int) == 0 && (1:Int) == 1 && (sIx items.size items.size hi-sIx items.size 0 lo) == items.size)=true):=by
  intro q
  rw[Bool.and_eq_true,Bool.and_eq_true] at q
  have q1:((sIx items.size 0 lo:Nat):Int)=0:=eq_of_beq q.1.1
  have q2:sIx items.size items.size hi-sIx items.size 0 lo=items.size:=eq_of_beq q.2
  exact hw ⟨by omega,by omega⟩
 show wpAny _ _ (if (((sIx items.size 0 lo:Nat):Int) == 0 && (1:Int) == 1 && (sIx items.size items.size hi-sIx items.size 0 lo) == items.size)=true then _ else _) _ _ s
 rw[if_neg hno,jc8]
 first
  | exact wpAny_bind (m:=Builtin.Tuple.tupleExact _) (wpAny_newObj_type (wpAny_pure ⟨_,rfl,wpAny_pure h⟩) htake)
  | exact wpAny_bind (m:=Builtin.Tuple.tupleExact _) (wpAny_newObj_type (wpAny_bind (wpAny_pure (wpAny_pure ⟨_,rfl,wpAny_pure h⟩))) htake)
  | exact wpAny_bind (wpAny_bind (m:=Builtin.Tuple.tupleExact _) (wpAny_newObj_type (wpAny_pure (wpAny_pure ⟨_,rfl,wpAny_pure h⟩)) htake))
  | exact wpAny_bind (wpAny_bind (m:=Builtin.Tuple.tupleExact _) (wpAny_newObj_type (wpAny_pure ⟨_,rfl,wpAny_pure h⟩) htake))
end
end HT
namespace L2
open PySem PySem.Spec PyProof.Rows
abbrev TO:=St→Hp→(Option Int→Hp→Prop)→Prop
def PO (X:Cx) (e:Option Expr) (t:TO):Prop :=
 ∀ (pins:List (Addr × Obj)) (s:Shared) (σ:St) (H:Hp) (Q:Option Int→Hp→Prop),Inv X pins σ H s→t σ H Q →
  wpAny (model X.prog X.w) X.A (evalPart e X.env) (fun u s'=>∃ o H',Inv X pins σ H' s'∧IsPart u o∧Q o H') X.xe s
def jbh:TO:=fun _ H Q=>Q none H
def tPart (t:TE):TO:=fun σ H Q=>t σ H fun x H1=>∃ i,x=.int i∧Q (some i) H1
theorem j2g {ns:List Int}:∀ {us:List Value},Vals (ns.map V.int) us→IntsAre us ns:=by
 induction ns with
 | nil=>intro us r;rw[List.map_nil] at r;cases r;exact .nil
 | cons n ns ih =>
  intro us r
  rw[List.map_cons] at r
  cases r with
  | cons r1 r2 =>
   obtain⟨t,e⟩:=r1
   subst e
   exact .cons n t (ih r2)
section
variable {X:Cx}{e:Expr}{te:TE}{lo hi:Option Expr}{tl th:TO}{pos p2:Pos}
theorem j31:PO X none jbh:=by
 intro pins s σ H Q I h
 rw[evalPart_none]
 exact wpAny_pure ⟨none,H,I,.none,h⟩
theorem j27 (h:PE X e te):PO X (some e) (tPart te):=by
 intro pins s σ H Q I hw
 rw[evalPart_some]
 refine thn (h pins s σ H _ I hw) fun u s1 ⟨x,H1,I1,r1,q1⟩=>?_
 obtain⟨i,rfl,q⟩:=q1
 obtain⟨t,rfl⟩:=r1
 exact⟨some i,H1,I1,.int i t,q⟩
def SlR (X:Cx) (r:V→Option Int→Option Int→Hp→VK→Prop):Prop :=
 ∀ (pins:List (Addr × Obj)) (s:Shared) (σ:St) (H:Hp) (x:V) (v vl vu:Value) (lo hi:Option Int) (sl:Addr) (Q:VK),Inv X pins σ H s→RelV x v→s.heap.IsSliceOf sl vl vu .none→IsPart vl lo→IsPart vu hi→r x lo hi H Q →
  ∃ T id,typeLookup (.type T) "__getitem__"=pure (some (.builtin id))∧s.TypeIs v T∧wpAny (model X.prog X.w) X.A (getItem v (.ref sl)) (EP X pins σ Q) X.xe s
theorem SlR.or {r r':V→Option Int→Option Int→Hp→VK→Prop} (h:SlR X r) (h':SlR X r'):SlR X (fun x lo hi H Q=>r x lo hi H Q∨r' x lo hi H Q):=by
 intro pins s σ H x v vl vu lo hi sl Q I rx hs pl pu q
 rcases q with q | q
 ·exact h pins s σ H x v vl vu lo hi sl Q I rx hs pl pu q
 ·exact h' pins s σ H x v vl vu lo hi sl Q I rx hs pl pu q
def tSl (r:V→Option Int→Option Int→Hp→VK→Prop) (te:TE) (tl th:TO):TE:=fun σ H Q=>te σ H fun x H1=>tl σ H1 fun l H2=>th σ H2 fun u H3=>r x l u H3 Q
theorem j1u {r:V→Option Int→Option Int→Hp→VK→Prop} (hr:SlR X r) (he:PE X e te) (hl:PO X lo tl) (hu:PO X hi th):PE X (.Subscript e (.Slice lo hi none p2) pos) (tSl r te tl th):=by
 intro pins s σ H Q I h
 refine Subscript_ (thn (he pins s σ H _ I h) fun v s1 ⟨x,H1,I1,r1,q1⟩=>?_)
 refine wpAny_Slice (thn (hl pins s1 σ H1 _ I1 q1) fun vl s2 ⟨l,H2,I2,pl,q2⟩=>thn (hu pins s2 σ H2 _ I2 q2) fun vu s3 ⟨u,H3,I3,pu,q3⟩=>?_)
 rw[evalPart_none]
 refine wpAny_pure ?_
 have I4:Inv X pins σ H3 { s3 with heap:=s3.heap.push { cls:=.type "slice",data:=.fields #[vl,vu,.none] } }:=I3.kept (t':=s3.toks) fun b ob q=>Heap.get?_push_of_some _ q
 obtain⟨T,id,hT,ht,hg⟩:=hr pins { s3 with heap:=s3.heap.push { cls:=.type "slice",data:=.fields #[vl,vu,.none] } } σ H3 x v vl vu l u s3.heap.objs.size Q I4 r1 (Heap.IsSliceOf.new ..) pl pu q3
 show wpAny (model X.prog X.w) X.A (subscriptTail e (.Slice lo hi none p2) v (.ref s3.heap.objs.size)) (EP X pins σ Q) X.xe { s3 with heap:=s3.heap.push { cls:=.type "slice",data:=.fields #[vl,vu,.none] } }
 exact tail_any (ops:=[.ref s3.heap.objs.size,v]) ht hT hg (by with_unfolding_all rfl)
def cutV (xs:List V) (lo hi:Option Int):List V:=(xs.drop (HT.sIx xs.length 0 lo)).take (HT.sIx xs.length xs.length hi-HT.sIx xs.length 0 lo)
theorem j4u (xs:List V) (lo hi:Option Int):(cutV xs lo hi).length≤xs.length:=by
 unfold cutV
 rw[List.length_take,List.length_drop]
 omega
def rSlT (K:PySem.W.Frag):V→Option Int→Option Int→Hp→VK→Prop:=fun x lo hi H Q=>∃ a xs,x=.ref a∧SqT K H a xs ∧
 ¬ (HT.sIx xs.length 0 lo=0∧HT.sIx xs.length xs.length hi=xs.length)∧∀ p,H p=none→Q (.ref p) (upd H p (.tup (cutV xs lo hi)))
theorem sl_tup:SlR X (rSlT X.K):=by
 intro pins s σ H x v vl vu lo hi sl Q I rx hs pl pu h
 obtain⟨a,xs,rfl,hx,hw,q⟩:=h
 cases rx
 obtain⟨its,r,ht,hz⟩:=I.tuple hx
 have hlen:its.toArray.size=xs.length:=by rw[List.size_toArray];exact r.length.symm
 refine⟨"tuple",_,PyProof.Rows.slot_tuple_getitem.lookup,ht.typeIs,?_⟩
 refine HT.getItem_tuple_cut ht hs pl pu (by rw[hlen];exact hw) ?_ (by rw[hlen];exact hz)
 rw[hlen]
 refine⟨.ref s.heap.objs.size,_,I.laid (t':=s.toks) (o:=.tup (cutV xs lo hi)) (fun b ob q=>Heap.get?_push_of_some _ q) (Nat.le_refl _) ?_,rfl,q _ (I.hok.fresh (Nat.le_refl _))⟩
 exact⟨Nat.le_trans (j4u xs lo hi) hz,_,(r.drop (HT.sIx xs.length 0 lo)).take (HT.sIx xs.length xs.length hi-HT.sIx xs.length 0 lo),TupN.new _ _⟩
end
def ixN (n:Nat) (i:Int):Option Nat:=if 0≤i then (if i < n then some i.toNat else none) else if -(n:Int)≤i then some (i+n).toNat else none
def atI {α:Type} (xs:List α) (i:Int):Option α:=(ixN xs.length i).bind fun j=>xs[j]?
theorem jbi {n:Nat}{i:Int}{j:Nat} (h:ixN n i=some j):seqIndex? i n=some j∧j < n∧-(n:Int)≤i∧i < n:=by
 unfold ixN at h
 by_cases h0:0≤i
 ·rw[if_pos h0] at h
  by_cases h1:i < n
  ·rw[if_pos h1] at h
   have e:i.toNat=j:=Option.some.inj h
   exact⟨by rw[seqIndex_of h0 h1,e],by omega,by omega,h1⟩
  ·rw[if_neg h1] at h;cases h
 ·rw[if_neg h0] at h
  by_cases h1:-(n:Int)≤i
  ·rw[if_pos h1] at h
   have e:(i+n).toNat=j:=Option.some.inj h
   exact⟨by rw[seqIndex_neg (by omega) h1,e],by omega,h1,by omega⟩
  ·rw[if_neg h1] at h;cases h
theorem j96 {α:Type}{xs:List α}{i:Int}{v:α} (h:atI xs i=some v):∃ j,seqIndex? i xs.length=some j∧xs[j]?=some v∧j < xs.length∧-(xs.length:Int)≤i∧i < xs.length:=by
 unfold atI at h
 cases e:ixN xs.length i with
 | none=>rw[e] at h;cases h
 | some j =>
  rw[e] at h
  obtain⟨h1,h2,h3,h4⟩:=jbi e
  exact⟨j,h1,h,h2,h3,h4⟩
theorem jbj {α:Type}{xs:List α}{j:Nat}{v:α} (h:xs[j]?=some v):atI xs (j:Int)=some v:=by
 have hj:j < xs.length:=(List.getElem?_eq_some_iff.mp h).1
 have e:ixN xs.length (j:Int)=some j:=by
  unfold ixN
  rw[if_pos (by omega),if_pos (by omega)];simp
 unfold atI;rw[e];exact h
def jdi (b:Expr):Prop:=∀ o i,subscripted b false o i=operate [o,i] (getItem o i)
def IxR (X:Cx) (r:R2):Prop :=
 ∀ (value slice:Expr) (pins:List (Addr × Obj)) (s:Shared) (σ:St) (H:Hp) (x y:V) (v u:Value) (Q:VK),Inv X pins σ H s→RelV x v→RelV y u→r x y H Q →
  subscripted slice false v u=operate [v,u] (getItem v u)→wpAny (model X.prog X.w) X.A (subscriptTail value slice v u) (EP X pins σ Q) X.xe s
def MtR (X:Cx) (id:String) (r:V→List V→Hp→VK→Prop):Prop :=
 ∀ (pins:List (Addr × Obj)) (s:Shared) (σ:St) (H:Hp) (x:V) (xs:List V) (v:Value) (us:List Value) (Q:VK),Inv X pins σ H s→RelV x v→Vals xs us→r x xs H Q →
  wpAny (model X.prog X.w) X.A (call (.builtin id) (v :: us)) (EP X pins σ Q) X.xe s
section
variable {X:Cx}{a b:Expr}{ta tb:TE}{pos:Pos}
theorem IxR.or {r r':R2} (h:IxR X r) (h':IxR X r'):IxR X (fun x y H Q=>r x y H Q∨r' x y H Q):=by
 intro value slice pins s σ H x y v u Q I rx ry q hs
 rcases q with q | q
 ·exact h value slice pins s σ H x y v u Q I rx ry q hs
 ·exact h' value slice pins s σ H x y v u Q I rx ry q hs
theorem j14 {r:R2} (hr:IxR X r) (ha:PE X a ta) (hb:PE X b tb) (hs:jdi b):PE X (.Subscript a b pos) (tOp r ta tb):=by
 intro pins s σ H Q I h
 exact Subscript_ (binT ha hb I h fun v u s2 x y H2 I2 rx ry q=>hr a b pins s2 σ H2 x y v u Q I2 rx ry q (hs _ _))
def rIxL (K:PySem.W.Frag):R2:=fun x y H Q=>∃ p xs i v,x=.ref p∧y=.int i∧SqL K H p xs∧atI xs i=some v∧Q v H
def rIxT (K:PySem.W.Frag):R2:=fun x y H Q=>∃ p xs i v,x=.ref p∧y=.int i∧SqT K H p xs∧atI xs i=some v∧Q v H
def rIxS:R2:=fun x y H Q=>∃ z i c,x=.str z∧y=.int i∧z.length≤sizeLine∧atI z.cps.toList i=some c∧Q (.str ⟨#[c]⟩) H
theorem jdj:IxR X (rIxL X.K):=by
 intro value slice pins s σ H x y v u Q I rx ry h hs
 obtain⟨p,xs,i,z,rfl,rfl,hq,he,q⟩:=h
 cases rx
 obtain⟨t,rfl⟩:=ry
 obtain⟨its,r,pl,hz⟩:=I.list hq
 obtain⟨j,h1,h2,h3,h4,h5⟩:=j96 he
 obtain⟨w,ew,rw'⟩:=r.get h2
 have hl:=r.length
 have hn:=j6d
 have fin:EP X pins σ Q w s:=⟨z,H,I,rw',q⟩
 by_cases h0:0≤i
 ·have hj:i.toNat=j:=by
   rw[seqIndex_of h0 h5] at h1
   exact Option.some.inj h1
  exact item_listR pl.isList h0 (by omega) (by rw[hj];simpa using ew) fin hs
 ·have hj:(i+(its.toArray.size:Int)).toNat=j:=by
   rw[seqIndex_neg (by omega) h4] at h1
   rw[List.size_toArray,← hl]
   exact Option.some.inj h1
  exact subscriptTail_builtinR (x:=w) pl.isList.typeIs slot_list_getitem.lookup
   (wpAny_getItem_list_neg (Q:=fun r s'=>r=w∧EP X pins σ Q r s') pl.isList (by omega) (by rw[List.size_toArray] <;> omega) (by omega) (by rw[hj];simpa using ew) ⟨rfl,fin⟩) hs
theorem ix_tup:IxR X (rIxT X.K):=by
 intro value slice pins s σ H x y v u Q I rx ry h hs
 obtain⟨p,xs,i,z,rfl,rfl,hq,he,q⟩:=h
 cases rx
 obtain⟨t,rfl⟩:=ry
 obtain⟨its,r,pl,hz⟩:=I.tuple hq
 obtain⟨j,h1,h2,h3,h4,h5⟩:=j96 he
 obtain⟨w,ew,rw'⟩:=r.get h2
 have hl:=r.length
 have hn:=j6d
 have fin:EP X pins σ Q w s:=⟨z,H,I,rw',q⟩
 exact subscriptTail_builtinR (x:=w) pl.typeIs slot_tuple_getitem.lookup
  (getItem_tuple (j:=j) (Q:=fun r s'=>r=w∧EP X pins σ Q r s') pl (by omega) (by omega) (by rw[List.size_toArray,← hl];exact h1) (by simpa using ew) ⟨rfl,fin⟩) hs
theorem ix_str:IxR X rIxS:=by
 intro value slice pins s σ H x y v u Q I rx ry h hs
 obtain⟨z,i,c,rfl,rfl,hz,he,q⟩:=h
 obtain⟨t,rfl⟩:=rx
 obtain⟨t',rfl⟩:=ry
 obtain⟨j,h1,h2,h3,h4,h5⟩:=j96 he
 have hl:z.cps.toList.length=z.length:=by simp[Str.length]
 rw[hl] at h1 h4 h5
 have hn:=j6d
 exact tail_any (typeIs_str s z t) slot_str_getitem.lookup (getItem_str (c:=c) (by
  have e1:decide (i < -(2 ^ 63:Int))=false:=decide_eq_false (by omega)
  have e2:decide (i≥2 ^ 63)=false:=decide_eq_false (by omega)
  rw[e1,e2,Bool.or_false]) (by rw[h1];simpa using h2) ⟨.str ⟨#[c]⟩,H,I.tok _,⟨_,rfl⟩,q⟩) hs
def rIx (K:PySem.W.Frag):R2:=fun x y H Q=>rIxL K x y H Q∨rIxT K x y H Q∨rIxS x y H Q
theorem ix_seq:IxR X (rIx X.K):=jdj.or (ix_tup.or ix_str)
theorem j97 (its:List Value) (n j:Nat) (u:Value):Obj.mapSeq (·.setIfInBounds j u) { cls:=.type "list",data:=.seq its.toArray n }={ cls:=.type "list",data:=.seq (its.set j u).toArray n }:=by
 simp[Obj.mapSeq]
theorem Inv.lst {pins:List (Addr × Obj)}{σ:St}{H:Hp}{s:Shared}{p:Addr}{xs:List V} (I:Inv X pins σ H s) (h:H p=some (.lst xs)) :
  ∃ (its:List Value) (n:Nat),Vals xs its∧s.heap.get? p=some { cls:=.type "list",data:=.seq its.toArray n }∧xs.length≤sizeLine:=by
 obtain⟨z,its,n,r,e⟩:=I.hok p _ h
 exact⟨its,n,r,e,z⟩
theorem Inv.lstUpd {pins:List (Addr × Obj)}{σ:St}{H:Hp}{s:Shared}{p:Addr}{xs ys:List V}{its its':List Value}{n n':Nat}{f:Obj→Obj} (I:Inv X pins σ H s) (h:H p=some (.lst xs))
  (ho:s.heap.get? p=some { cls:=.type "list",data:=.seq its.toArray n }) (hf:f { cls:=.type "list",data:=.seq its.toArray n }={ cls:=.type "list",data:=.seq its'.toArray n' }) (r:Vals ys its') (hz:ys.length≤sizeLine) (t:Nat) :
  Inv X pins σ (upd H p (.lst ys)) { s with heap:=s.heap.update p f,toks:=t }:=by
 have e:(s.heap.update p f).get? p=some { cls:=.type "list",data:=.seq its'.toArray n' }:=by
  rw[Heap.get?_update_self f ho (by rw[hf] <;> rfl),hf]
 refine I.write (x:=p) (e:=p) (by rw[h];trivial) (.inl rfl) (fun b u hb q=>(Heap.get?_update_other _ _ (Ne.symm hb)).trans q) ⟨_,e⟩ ?_
 exact⟨hz,its',n',r,e⟩
def rSetL:V→V→V→Hp→(Hp→Prop)→Prop:=fun o i v H Q=>∃ p xs k j,o=.ref p∧i=.int k∧H p=some (.lst xs)∧ixN xs.length k=some j∧Q (upd H p (.lst (xs.set j v)))
theorem j51:PSet X rSetL:=by
 intro pins s σ H o i v ov iv u Q I ro ri rv h
 obtain⟨p,xs,k,j,rfl,rfl,hp,hj,q⟩:=h
 cases ro
 obtain⟨t,rfl⟩:=ri
 obtain⟨its,n,r,ho,hz⟩:=I.lst hp
 obtain⟨h1,h2,h3,h4⟩:=jbi hj
 have hl:=r.length
 have hn:=j6d
 have I':Inv X pins σ (upd H p (.lst (xs.set j v))) { s with heap:=s.heap.update p (Obj.mapSeq (·.setIfInBounds j u)) } :=
  I.lstUpd hp ho (j97 its n j u) (r.set rv j) (by rw[List.length_set];exact hz) s.toks
 by_cases h0:0≤k
 ·have hk:k.toNat=j:=by
   rw[seqIndex_of h0 h4] at h1
   exact Option.some.inj h1
  exact PySem.W.ki_setAt ho h0 (by omega) (by rw[List.size_toArray,← hl];exact h4) (by rw[hk];exact⟨_,I',q⟩)
 ·have hk:(k+(its.toArray.size:Int)).toNat=j:=by
   rw[seqIndex_neg (by omega) h3] at h1
   rw[List.size_toArray,← hl]
   exact Option.some.inj h1
  exact PySem.W.ki_setBack ho (by omega) (by rw[List.size_toArray,← hl];exact h3) (by omega) (by rw[hk];exact⟨_,I',q⟩)
theorem j6e (lo hi:Option Int) (n:Nat):(sliceBounds lo hi none n).1=((HT.sIx n 0 lo:Nat):Int)∧(sliceBounds lo hi none n).2.1=((HT.sIx n n hi:Nat):Int)∧(sliceBounds lo hi none n).2.2=1:=by
 refine⟨?_,?_,rfl⟩
 ·cases lo with
  | none=>simp[sliceBounds,HT.sIx]
  | some i =>
   simp only[sliceBounds,HT.sIx,Option.getD_none,show (1:Int) > 0 by decide,if_true]
   by_cases h:i < 0
   ·simp only[h,if_true] <;> omega
   ·simp only[h,if_false] <;> omega
 ·cases hi with
  | none=>simp[sliceBounds,HT.sIx]
  | some i =>
   simp only[sliceBounds,HT.sIx,Option.getD_none,show (1:Int) > 0 by decide,if_true]
   by_cases h:i < 0
   ·simp only[h,if_true] <;> omega
   ·simp only[h,if_false] <;> omega
theorem j5l (its:List Value) (lo hi:Option Int):slicePick its.toArray lo hi none=((its.drop (HT.sIx its.length 0 lo)).take (HT.sIx its.length its.length hi-HT.sIx its.length 0 lo)).toArray:=by
 obtain⟨h1,h2,h3⟩:=j6e lo hi its.toArray.size
 unfold slicePick
 rw[h1,h2,h3]
 simp only[sliceRange_one,pick_run,List.size_toArray] <;> rfl
def rSlL (K:PySem.W.Frag):V→Option Int→Option Int→Hp→VK→Prop:=fun x lo hi H Q=>∃ a xs,x=.ref a∧SqL K H a xs∧∀ p,H p=none→Q (.ref p) (upd H p (.lst (cutV xs lo hi)))
theorem jfb:SlR X (rSlL X.K):=by
 intro pins s σ H x v vl vu lo hi sl Q I rx hs pl pu h
 obtain⟨a,xs,rfl,hx,q⟩:=h
 cases rx
 obtain⟨its,r,ht,hz⟩:=I.list hx
 have hlen:=r.length
 refine⟨"list",_,slot_list_getitem.lookup,ht.isList.typeIs,?_⟩
 refine wpAny_getItem_list_slice ht.isList hs pl pu .none (by simp) ?_ (by rw[List.size_toArray] <;> omega)
 rw[j5l,← hlen]
 refine⟨.ref s.heap.objs.size,_,I.laid (t':=s.toks) (o:=.lst (cutV xs lo hi)) (fun b ob q=>Heap.get?_push_of_some _ q) (Nat.le_refl _) ?_,rfl,q _ (I.hok.fresh (Nat.le_refl _))⟩
 exact⟨Nat.le_trans (j4u xs lo hi) hz,_,0,(r.drop (HT.sIx xs.length 0 lo)).take (HT.sIx xs.length xs.length hi-HT.sIx xs.length 0 lo),Heap.get?_push_size _ rfl⟩
def j69:V→Bool
 | .non=>true
 | .bl _=>true
 | .int _=>true
 | .str _=>true
 | _=>false
def eqV:V→V→Bool
 | .non,.non=>true
 | .bl a,.bl b=>a == b
 | .bl a,.int b=>(if a then 1 else 0) == b
 | .int a,.bl b=>a == (if b then 1 else 0)
 | .int a,.int b=>a == b
 | .str a,.str b=>a == b
 | _,_=>false
theorem eqAt_V {A:Around}{s:Shared}{y x:V}{u v:Value} (ry:RelV y u) (rx:RelV x v) (fy:j69 y=true) (fx:j69 x=true):SeqAt.EqAt A s u v (eqV y x):=by
 cases y with
 | non =>
  cases ry
  cases x with
  | non=>cases rx;exact SeqAt.EqAt.same _
  | bl b=>cases rx;exact SeqAt.EqAt.none_bool b
  | int b=>obtain⟨t,rfl⟩:=rx;exact SeqAt.EqAt.none_int b t
  | str b=>obtain⟨t,rfl⟩:=rx;exact SeqAt.EqAt.none_str b t
  | _=>exact absurd (show false=true from fx) Bool.false_ne_true
 | bl a =>
  cases ry
  cases x with
  | non=>cases rx;exact SeqAt.EqAt.bool_none a
  | bl b=>cases rx;exact SeqAt.EqAt.bool_bool a b
  | int b=>obtain⟨t,rfl⟩:=rx;exact SeqAt.EqAt.bool_int a b t
  | str b=>obtain⟨t,rfl⟩:=rx;exact SeqAt.EqAt.bool_str a b t
  | _=>exact absurd (show false=true from fx) Bool.false_ne_true
 | int a =>
  obtain⟨t',rfl⟩:=ry
  cases x with
  | non=>cases rx;exact SeqAt.EqAt.int_none a t'
  | bl b=>cases rx;exact SeqAt.EqAt.int_bool a t' b
  | int b=>obtain⟨t,rfl⟩:=rx;exact SeqAt.EqAt.int_int a t' b t
  | str b=>obtain⟨t,rfl⟩:=rx;exact SeqAt.EqAt.int_str a t' b t
  | _=>exact absurd (show false=true from fx) Bool.false_ne_true
 | str a =>
  obtain⟨t',rfl⟩:=ry
  cases x with
  | non=>cases rx;exact SeqAt.EqAt.str_none a t'
  | bl b=>cases rx;exact SeqAt.EqAt.str_bool a t' b
  | int b=>obtain⟨t,rfl⟩:=rx;exact SeqAt.EqAt.str_int a t' b t
  | str b=>obtain⟨t,rfl⟩:=rx;exact SeqAt.EqAt.str_str a t' b t
  | _=>exact absurd (show false=true from fx) Bool.false_ne_true
 | _=>exact absurd (show false=true from fy) Bool.false_ne_true
def eqU (x:V) (u:Value):Bool:=match u with
 | .none=>eqV .non x
 | .bool b=>eqV (.bl b) x
 | .int i _=>eqV (.int i) x
 | .str z _=>eqV (.str z) x
 | _=>false
theorem jdl {x y:V}{u:Value} (r:RelV y u) (f:j69 y=true):eqU x u=eqV y x:=by
 cases y with
 | non=>cases r;rfl
 | bl b=>cases r;rfl
 | int i=>obtain⟨t,rfl⟩:=r;rfl
 | str z=>obtain⟨t,rfl⟩:=r;rfl
 | _=>exact absurd (show false=true from f) Bool.false_ne_true
theorem j5m {x:V}:∀ {xs:List V}{us:List Value},Vals xs us→xs.all j69=true→us.any (eqU x)=xs.any fun y=>eqV y x
 | _,_,.nil,_=>rfl
 | y :: xs,u :: us,.cons r t,f=>by
  rw[List.all_cons,Bool.and_eq_true] at f
  rw[List.any_cons,List.any_cons,jdl r f.1,j5m t f.2]
theorem j3h {A:Around}{s:Shared}{x:V}{v:Value} (rx:RelV x v) (fx:j69 x=true):∀ {xs:List V}{us:List Value},Vals xs us→xs.all j69=true→∀ u∈us,SeqAt.EqAt A s u v (eqU x u)
 | _,_,.nil,_=>fun u hu=>by cases hu
 | y :: xs,u :: us,.cons r t,f=>fun u' hu=>by
  rw[List.all_cons,Bool.and_eq_true] at f
  rcases List.mem_cons.mp hu with rfl | hu
  ·rw[jdl r f.1];exact eqAt_V r rx f.1 fx
  ·exact j3h rx fx t f.2 u' hu
def inV (x:V) (xs:List V):Bool:=xs.any fun y=>eqV y x
def rIn (K:PySem.W.Frag) (neg:Bool):R2:=fun x y H Q=>∃ p xs,y=.ref p∧(SqL K H p xs∨SqT K H p xs)∧j69 x=true∧xs.all j69=true∧Q (.bl (if neg then !inV x xs else inV x xs)) H
theorem jah:OpR X (compareOp .In) (rIn X.K false):=by
 intro pins s σ H x y v u Q I rx ry h
 obtain⟨p,xs,rfl,hq,fx,fs,q⟩:=h
 cases ry
 rcases hq with hq | hq
 ·obtain⟨its,r,pl,hz⟩:=I.list hq
  refine SeqAt.in_listAt (eqU x) pl.isList (fun w hw=>j3h rx fx r fs w (by simpa using hw)) ⟨.bl _,H,I,rfl,?_⟩
  rw[show its.toArray.any (eqU x)=its.any (eqU x) by simp,j5m r fs]
  exact q
 ·obtain⟨its,r,pl,hz⟩:=I.tuple hq
  refine SeqAt.in_tupleAt (eqU x) pl (fun w hw=>j3h rx fx r fs w (by simpa using hw)) ⟨.bl _,H,I,rfl,?_⟩
  rw[show its.toArray.any (eqU x)=its.any (eqU x) by simp,j5m r fs]
  exact q
theorem j6f:OpR X (compareOp .NotIn) (rIn X.K true):=by
 intro pins s σ H x y v u Q I rx ry h
 obtain⟨p,xs,rfl,hq,fx,fs,q⟩:=h
 cases ry
 rcases hq with hq | hq
 ·obtain⟨its,r,pl,hz⟩:=I.list hq
  refine SeqAt.notIn_listAt (eqU x) pl.isList (fun w hw=>j3h rx fx r fs w (by simpa using hw)) ⟨.bl _,H,I,rfl,?_⟩
  rw[show its.toArray.any (eqU x)=its.any (eqU x) by simp,j5m r fs]
  exact q
 ·obtain⟨its,r,pl,hz⟩:=I.tuple hq
  refine SeqAt.notIn_tupleAt (eqU x) pl (fun w hw=>j3h rx fx r fs w (by simpa using hw)) ⟨.bl _,H,I,rfl,?_⟩
  rw[show its.toArray.any (eqU x)=its.any (eqU x) by simp,j5m r fs]
  exact q
theorem j6g:CallR X (.builtin "len") (fun xs H Q=>∃ z,xs=[.str z]∧z.length≤sizeLine∧Q (.int z.length) H):=by
 intro pins s σ H xs us Q I r h
 obtain⟨z,rfl,hz,q⟩:=h
 obtain⟨u,rfl,t,rfl⟩:=j8y r
 have hn:=j6d
 exact len_str (by omega) ⟨.int z.length,H,I.tok _,⟨_,rfl⟩,q⟩
theorem CallR.or {f:Value}{r r':List V→Hp→VK→Prop} (h:CallR X f r) (h':CallR X f r'):CallR X f (fun xs H Q=>r xs H Q∨r' xs H Q):=by
 intro pins s σ H xs us Q I rs q
 rcases q with q | q
 ·exact h pins s σ H xs us Q I rs q
 ·exact h' pins s σ H xs us Q I rs q
theorem j6h:CallR X (.type "list") (fun xs H Q=>∃ p ys,xs=[.ref p]∧(SqL X.K H p ys∨SqT X.K H p ys)∧∀ l,H l=none→Q (.ref l) (upd H l (.lst ys))):=by
 intro pins s σ H xs us Q I r h
 obtain⟨p,ys,rfl,hq,q⟩:=h
 obtain⟨u,rfl,rx⟩:=j8y r
 cases rx
 have fin:∀ (its:List Value),Vals ys its→ys.length≤sizeLine→∀ (h':Heap) (c':Nat),(∀ b o',s.heap.get? b=some o'→h'.get? b=some o') →
   h'.get? s.heap.objs.size=some { cls:=.type "list",dict:=none,data:=.seq its.toArray c',slots:=#[] }→EP X pins σ Q (.ref s.heap.objs.size) { s with heap:=h' }:=fun its r' hz h' c' kp e =>
  ⟨.ref s.heap.objs.size,_,I.laid (t':=s.toks) kp (Nat.le_refl _) (show ObjOk X.prog X.w _ h' _ (.lst ys) from⟨hz,its,c',r',e⟩),rfl,q _ (I.hok.fresh (Nat.le_refl _))⟩
 rcases hq with hq | hq
 ·obtain⟨its,r',pl,hz⟩:=I.list hq
  have hlen:=r'.length
  obtain⟨o,ho,hc,n,hd⟩:=pl.isList
  exact call_list_seq p (.inl rfl) ho hc hd (fun h' c' kp e=>fin its r' hz h' c' kp e) (by simp only[List.size_toArray] <;> omega)
 ·obtain⟨its,r',pl,hz⟩:=I.tuple hq
  have hlen:=r'.length
  obtain⟨o,ho,hc,n,hd⟩:=pl
  exact call_list_seq p (.inr rfl) ho hc hd (fun h' c' kp e=>fin its r' hz h' c' kp e) (by simp only[List.size_toArray] <;> omega)
theorem j5n:CallR X (.type "tuple") (fun xs H Q=>∃ p ys,xs=[.ref p]∧((SqL X.K H p ys∧∀ l,H l=none→Q (.ref l) (upd H l (.tup ys)))∨(SqT X.K H p ys∧Q (.ref p) H))):=by
 intro pins s σ H xs us Q I r h
 obtain⟨p,ys,rfl,h⟩:=h
 obtain⟨u,rfl,rx⟩:=j8y r
 cases rx
 rcases h with⟨hq,q⟩ | ⟨hq,q⟩
 ·obtain⟨its,r',pl,hz⟩:=I.list hq
  have hlen:=r'.length
  refine call_tuple_list pl.isList (fun h' kp=>?_) (by simp only[List.size_toArray] <;> omega)
  have I1:Inv X pins σ H { s with heap:=h' }:=I.kept (t':=s.toks) kp
  have I2:Inv X pins σ (upd H h'.objs.size (.tup ys)) { s with heap:=h'.push { cls:=.type "tuple",data:=.seq its.toArray } } :=
   I1.laid (t':=s.toks) (fun b o e=>Heap.get?_push_of_some _ e) (Nat.le_refl _) (show ObjOk X.prog X.w _ _ _ (.tup ys) from⟨hz,its,r',TupN.new _ _⟩)
  exact⟨.ref h'.objs.size,_,I2,rfl,q _ (I1.hok.fresh (Nat.le_refl _))⟩
 ·obtain⟨its,r',pl,hz⟩:=I.tuple hq
  exact call_tuple_same pl ⟨.ref p,H,I,rfl,q⟩
def tyV (K:PySem.W.Frag) (T:String) (x:V) (H:Hp):Prop:=match x with
 | .str _=>T="str"
 | .int _=>T="int"
 | .ref p=>(T="list"∧∃ xs,SqL K H p xs)∨(T="tuple"∧∃ o,K.lookup p=some o∧o.cls=.type "tuple"∧o.dict=none) ∨
   (T="dict"∧((∃ kvs,H p=some (.dK kvs))∨∃ kvs,H p=some (.dT kvs)))∨(T="set"∧∃ S n,H p=some (.set S n))
 | _=>False
theorem tyV_is {pins:List (Addr × Obj)}{σ:St}{H:Hp}{s:Shared}{T:String}{x:V}{v:Value} (I:Inv X pins σ H s) (r:RelV x v) (ty:tyV X.K T x H) :
  s.TypeIs v T∧∀ a,v=.ref a→∃ ob,s.heap.get? a=some ob∧ob.dict=none:=by
 cases x with
 | str z =>
  obtain⟨t,rfl⟩:=r
  cases (show T="str" from ty)
  exact⟨typeIs_str s z t,fun _ e=>nomatch e⟩
 | int i =>
  obtain⟨t,rfl⟩:=r
  cases (show T="int" from ty)
  exact⟨typeIs_int s i t,fun _ e=>nomatch e⟩
 | ref p =>
  cases r
  rcases ty with⟨rfl,xs,hq⟩ | ⟨rfl,o,hk,hc,hd⟩ | ⟨rfl,hk⟩ | ⟨rfl,S,n,hk⟩
  ·obtain⟨its,_,pl,_⟩:=I.list hq
   refine⟨pl.isList.typeIs,fun a e=>?_⟩
   cases e
   obtain⟨o,n,e,c,hd,_⟩:=pl
   exact⟨o,e,hd⟩
  ·refine⟨⟨o,I.kIn p o hk,hc⟩,fun a e=>?_⟩
   cases e
   exact⟨o,I.kIn _ o hk,hd⟩
  ·have z:∃ o,s.heap.get? p=some o∧o.ExactDict:=by
    rcases hk with⟨kvs,hk⟩ | ⟨kvs,hk⟩
    ·obtain⟨_,_,_,_,o,_,_,e,ex,_⟩:=I.hok p _ hk
     exact⟨o,e,ex⟩
    ·obtain⟨_,_,_,_,o,_,_,e,ex,_⟩:=I.hok p _ hk
     exact⟨o,e,ex⟩
   obtain⟨o,e,ex⟩:=z
   refine⟨⟨o,e,ex.1⟩,fun a e2=>?_⟩
   cases e2
   exact⟨o,e,ex.2.1⟩
  ·obtain⟨o,_,_,_,e,ex,_⟩:=I.hok p _ hk
   refine⟨⟨o,e,ex.1⟩,fun a e2=>?_⟩
   cases e2
   exact⟨o,e,ex.2.1⟩
 | _=>exact False.elim ty
def tBM (K:PySem.W.Frag) (T:String) (r:V→List V→Hp→VK→Prop) (to:TE) (t:TA):TE:=fun σ H Q=>to σ H fun x H1=>tyV K T x H1∧t σ H1 fun xs H2=>r x xs H2 Q
variable {o e:Expr}{es:List Expr}{to:TE}{t:TA}{name:Str}{apos cpos:Pos}{T id:String}{r:V→List V→Hp→VK→Prop}
theorem pe_bm (pa:PlainAttrs T) (slot:Slot T name id) (hty:typeOf (.builtin id)=pure (.type "method_descriptor")) (hm:MtR X id r) (ho:PE X o to) (ha:PA X (e :: es) t)
  (hbase:attributeBase o name X.env (eval o X.env)=eval o X.env:=by rfl)
  (hfew:((backTo cpos (starEach (e :: es) X.env)).all (fun x=>!x.1) && (backToKw cpos (keywordEach [] X.env)).all (fun x=>x.1.isSome)
   && decide ((e :: es).length+([]:List Keyword).length+(if ([]:List Keyword).isEmpty then 0 else 1) < 30))=true:=by rfl)
  (hline:(apos.endLine == cpos.line)=true:=by rfl) (hs:starEach (e :: es) X.env=(false,eval e X.env) :: starEach es X.env:=by rfl) (hplain:(backTo cpos (starEach es X.env)).any (·.1)=false:=by rfl) :
  PE X (.Call (.Attribute o name apos) (e :: es) [] cpos) (tBM X.K T r to t):=by
 intro pins s σ H Q I h
 refine wpAny_Call_method_late hbase hfew hline rfl (thn (ho pins s σ H _ I h) fun v s1 ⟨x,H1,I1,r1,ty,q1⟩=>?_)
 obtain⟨h1,h2⟩:=tyV_is I1 r1 ty
 refine⟨T,id,pa,slot,hty,h1,h2,?_⟩
 have hA:=ha cpos pins s1 σ H1 _ I1 q1
 rw[hs] at hA ⊢
 refine Calls.callWith_builtin (by show (false || (backTo cpos (starEach es X.env)).any (·.1))=false;rw[hplain] <;> rfl) (Calls.evalArgs_plain ?_)
 exact thn hA fun us s2 ⟨vs,H2,I2,r2,q2⟩=>hm pins s2 σ H2 x vs v us Q I2 r1 r2 q2
end
def MtM (X:Cx) (id:String) (r:V→List V→Hp→VK→Prop):Prop :=
 ∀ (pins:List (Addr × Obj)) (s:Shared) (σ:St) (H:Hp) (x:V) (xs:List V) (v:Value) (us:List Value) (Q:VK),Inv X pins σ H s→RelV x v→Vals xs us→r x xs H Q →
  wpAny (model X.prog X.w) X.A (call (.builtin id) (v :: us)) (EP X pins σ Q) X.xe s
theorem Vals.one:∀ {x:V}{us:List Value},Vals [x] us→∃ u,us=[u]∧RelV x u
 | _,_,.cons r .nil=>⟨_,rfl,r⟩
section
variable {X:Cx}{pins:List (Addr × Obj)}{σ:St}{H:Hp}{s:Shared}{l b:Addr}{xs ys zs:List V}
theorem Inv.lset {its its':List Value}{n:Nat}{f:Array Value→Array Value}{t':Nat} (I:Inv X pins σ H s) (hH:H l=some (.lst xs))
  (e:s.heap.get? l=some { cls:=.type "list",data:=.seq its.toArray n }) (hf:f its.toArray=its'.toArray) (hv:Vals ys its') (hz:ys.length≤sizeLine) :
  Inv X pins σ (upd H l (.lst ys)) { s with heap:=s.heap.update l (Obj.mapSeq f),toks:=t' }:=by
 have q:=PySem.IsL.update e f
 rw[hf] at q
 refine I.write (x:=l) (e:=l) (by rw[hH];exact trivial) (.inl rfl) (fun b' u hb hu=>(Heap.get?_update_other s.heap (Obj.mapSeq f) (Ne.symm hb)).trans hu) ⟨_,q⟩ ?_
 exact⟨hz,its',_,hv,q⟩
theorem Inv.lnew {its:List Value}{t':Nat} (I:Inv X pins σ H s) (hv:Vals ys its) (hz:ys.length≤sizeLine) :
  Inv X pins σ (upd H s.heap.objs.size (.lst ys)) { s with heap:=s.heap.push { cls:=.type "list",data:=.seq its.toArray },toks:=t' } :=
 I.laid (fun _ _ q=>Heap.get?_push_of_some _ q) (Nat.le_refl _) ⟨hz,its,0,hv,Heap.get?_push_size _ rfl⟩
theorem Inv.fresh (I:Inv X pins σ H s):H s.heap.objs.size=none:=I.hok.fresh (Nat.le_refl _)
theorem Inv.lstM (I:Inv X pins σ H s) (hH:H l=some (.lst xs)):xs.length≤sizeLine∧∃ (its:List Value) (n:Nat),Vals xs its∧xs.length=its.length∧s.heap.get? l=some { cls:=.type "list",data:=.seq its.toArray n }:=by
 obtain⟨z,its,n,r,e⟩:=I.hok l _ hH
 exact⟨z,its,n,r,r.length,e⟩
end
section
variable {X:Cx}
def jbk:V→List V→Hp→VK→Prop:=fun x vs H Q=>∃ l xs y,x=.ref l∧vs=[y]∧H l=some (.lst xs)∧xs.length < sizeLine∧Q .non (upd H l (.lst (xs++[y])))
theorem j7i:MtM X "list.append" jbk:=by
 intro pins s σ H x vs v us Q I rx rv h
 obtain⟨l,xs,y,rfl,rfl,hH,hz,q⟩:=h
 cases rx
 obtain⟨u,rfl,ru⟩:=rv.one
 obtain⟨z,its,n,r,hl,e⟩:=I.lstM hH
 refine call_meets F.slot_list_append ⟨_,e,rfl⟩ F.entry_list_append (F.args_list_append_2 _ _) (PySem.list_append l its.toArray n u (by rw[List.size_toArray];omega)) ⟨e,?_⟩
 refine⟨.non,_,I.lset (its':=its++[u]) hH e (by simp) (r.append (.cons ru .nil)) ?_,rfl,q⟩
 rw[List.length_append,List.length_singleton]
 omega
def rCat:R2:=fun x y H Q=>∃ l b xs zs,x=.ref l∧y=.ref b∧H l=some (.lst xs)∧H b=some (.lst zs)∧xs.length+zs.length≤sizeLine∧∀ p,H p=none→Q (.ref p) (upd H p (.lst (xs++zs)))
theorem op_cat:OpR X (binaryOp .Add) rCat:=by
 intro pins s σ H x y v u Q I rx ry h
 obtain⟨l,b,xs,zs,rfl,rfl,hH,hB,hz,q⟩:=h
 cases rx
 cases ry
 obtain⟨z,its,n,r,hl,e⟩:=I.lstM hH
 obtain⟨z2,its2,n2,r2,hl2,e2⟩:=I.lstM hB
 refine PySem.P.add_list e e2 ?_ (by rw[List.size_toArray,List.size_toArray];omega)
 have ea:its.toArray++its2.toArray=(its++its2).toArray:=by simp
 rw[ea]
 exact⟨.ref _,_,I.lnew (t':=s.toks) (r.append r2) (by rw[List.length_append];omega),rfl,q _ I.fresh⟩
end
structure M1 (X:Cx) (o:Expr) (m:Str) (apos:Pos) (e:Expr) (cpos:Pos):Prop where
 base:attributeBase o m X.env (eval o X.env)=eval o X.env
 few:((backTo cpos (starEach [e] X.env)).all (fun x=>!x.1) && (backToKw cpos (keywordEach [] X.env)).all (fun x=>x.1.isSome)
  && decide (([e]:List Expr).length+([]:List Keyword).length+(if ([]:List Keyword).isEmpty then 0 else 1) < 30))=true
 line:(apos.endLine == cpos.line)=true
 trees:backTo cpos (starEach [e] X.env)=[(false,eval e X.env)]
structure M2 (X:Cx) (o:Expr) (m:Str) (apos:Pos) (e f:Expr) (cpos:Pos):Prop where
 base:attributeBase o m X.env (eval o X.env)=eval o X.env
 few:((backTo cpos (starEach [e,f] X.env)).all (fun x=>!x.1) && (backToKw cpos (keywordEach [] X.env)).all (fun x=>x.1.isSome)
  && decide (([e,f]:List Expr).length+([]:List Keyword).length+(if ([]:List Keyword).isEmpty then 0 else 1) < 30))=true
 line:(apos.endLine == cpos.line)=true
 trees:backTo cpos (starEach [e,f] X.env)=[(false,eval e X.env),(false,eval f X.env)]
end L2
namespace Att
open PySem PySem.W PySem.Calls PyProof.Rows
theorem j48 {P:Params}{h:Heap}:∀ (ns:List Int) (vs:List Value),WellAll P h vs (ns.map WData.int)→IntsAre vs ns:=by
 intro ns
 induction ns with
 | nil =>
  intro vs w
  rw[List.map_nil] at w
  cases w
  exact .nil
 | cons n ns ih =>
  intro vs w
  rw[List.map_cons] at w
  cases w with
  | cons a b =>
   cases a
   exact .cons _ _ (ih _ b)
theorem script_of {l:OpenLaw}{n:Nat} (hn:l.most=some n) {P:Params}{h:Heap}{args:List WData}{vals:List Value}
  (hpre:l.row.toRowW.claim.pre args=true) (hwl:WellAll P h vals args) :
  ∃ a vs ns,vals=[Value.ref a]∧args=[WData.list (ns.map WData.int)]∧h.get? a=some { cls:=.type "list",data:=.seq vs.toArray }∧IntsAre vs ns∧ns.length≤n:=by
 have hsh:WShape.hasAll [] args [.list .int]=true:=(pre_splitW hpre).1
 have hc:l.pre.holds [] { args:=args }=true:=(pre_splitW hpre).2
 obtain⟨d,r,rfl,h1,h2⟩:=hasAllW_cons hsh
 obtain rfl:=hasAllW_nil h2
 obtain⟨xs,rfl,h3⟩:=hasW_list h1
 obtain⟨ns,rfl⟩:=items_int h3
 have hlen:ns.length≤n:=by
  unfold OpenLaw.pre at hc
  have h4:(WTm.not (.lt (.lit (.int (n:Int))) (.len (.arg 0)))).holds [] { args:=[.list (ns.map .int)] }=true:=by
   have h4:=(holds_andW hc).1
   rw[hn] at h4
   exact h4
  have h5:=condW_of h4 (w_not (w_lt w_lit (w_len_list (w_arg rfl))))
  rw[List.length_map] at h5
  refine Nat.le_of_not_lt fun q=>?_
  have q':(n:Int) < ((ns.length:Nat):Int):=by omega
  first
   | (rw[decide_eq_true q'] at h5;exact absurd h5 (by decide))
   | (simp at h5;omega)
 cases hwl with
 | cons w1 w2 =>
  cases w2
  cases w1 with
  | list ho hall=>exact⟨_,_,ns,rfl,rfl,ho,j48 ns _ hall,hlen⟩
theorem post_true (l:OpenLaw) (args:List WData):l.row.toRowW.claim.post args (.bool true) args=true :=
 postW_of (r:=l.row.toRowW) (X:=(true == true))
  (show WShape.has [] (.bool true) .bool=true by first | rfl | decide | simp[WShape.has,WShape.arms,WShape.armsAll])
  (show (WTm.eq .res (.lit (.bool true))).value [] { args:=args,res:=some (.bool true),after:=args }=some (.bool (true == true)) from w_eq_bool (w_res rfl) w_lit) rfl
theorem attach_call {l:OpenLaw}{n:Nat}{q:Program}{loose:List Str}{XP:(Str→Option Value)→Heap→Prop}{YP:World→Heap→Prop}{d:DefRec}
  (hn:l.most=some n) (hdf:d.params.defaults=[])
  (call:∀ (w:World) (s₀ s₁:Shared) (mg mb:Str→Option Value) (fa:Addr) (o:Obj) (pm cd doc:Value) (a:Addr) (vs:List Value) (ns:List Int),
   Ground q loose [] XP w s₀ mg mb s₁.heap→YP w s₁.heap →
   s₁.heap.get? fa=some o→o.data=.func (docDef d.name d.params d.body d.scope pm cd doc)→s₁.heap.CodeRec cd d.name→mg d.name=some (.ref fa) →
   s₁.heap.get? a=some { cls:=.type "list",data:=.seq vs.toArray }→IntsAre vs ns→ns.length≤n→s₁.gens=#[] →
   codeAny (model l.prog w) callerA (.call (.ref fa) ⟨[.ref a],[]⟩) (fun r s'=>r=.ok (.ret (.bool true))∧OldK s₁.heap s'.heap∧s'.os=s₁.os∧AllBare s'.gens) s₁) :
  WalkO q loose XP YP l.row.toRowW d [] (fun f vs=>PySem.call f vs):=by
 intro w s₀ s₁ mg mb G Y fa o pm cd doc dV kV ho hd hcd hD hmg hg args vals as hpre hlay hrd hwl hlo
 obtain rfl:dV=.none:=Dflts.none hD hdf
 obtain rfl:kV=.none:=Dflts.noKw hD
 obtain⟨a,vs,ns,rfl,rfl,hobj,hints,hlen⟩:=script_of hn hpre hwl
 refine enter_call (codeAny_mono (call w s₀ s₁ mg mb fa o pm cd doc a vs ns G Y ho (fd_plain hd) hcd hmg hobj hints hlen hg) fun r s' hq=>?_)
 obtain⟨rfl,h2,h3,h4⟩:=hq
 exact⟨.inl ⟨.bool true,.bool true,[],rfl,fun _=>rfl,.bool true,post_true l _,fun _=>⟨List.Pairwise.nil,fun _ hm=>(nomatch hm)⟩⟩,h2,h3,h4⟩
end Att
namespace L2
open PySem PySem.Spec PyProof.Rows
theorem j52:∀ {vs:List Value}{ns:List Int},IntsAre vs ns→Vals (ns.map V.int) vs
 | _,_,.nil=>.nil
 | _,_,.cons n t h=>.cons ⟨t,rfl⟩ (j52 h)
def Only (H:Hp):Prop:=∀ b,H b=none∨∃ o xs,H b=some (.frz o (.lst xs))
theorem j98 {P:Program}{w:World}{K:PySem.W.Frag}{mg mb:Str→Option Value}{CX:CXT}{k:Nat}{fa a:Addr}{fd:FuncData}{x:Str}{sp:Sp}{s₁:Shared}{vs:List Value}{ns:List Int}
  (KX:K.In s₁.heap) (hns:s₁.heap.Ns mainGlobals mg) (hb:s₁.heap.Ns builtinsNs mb) (hbb:∀ x:Str,x≠"__name__"→mb x=bootBuiltins x) (hlim:s₁.heap.NoLimit) (hbm:∃ bm ob,mg "__builtins__"=some (.ref bm)∧bm≠builtinsNs∧s₁.heap.get? bm=some ob∧ob.cls=.type "module"∧ob.dict=some builtinsNs∧ob.data=.plain) (hg:s₁.gens=#[])
  (ha:s₁.heap.get? a=some { cls:=.type "list",data:=.seq vs.toArray }) (hi:IntsAre vs ns) (hl:ns.length≤sizeLine) (hr:Room k callerA)
  (F:∀ base:Heap,K.In base→base.Ns mainGlobals mg→FnOk P w K mg base CX k fa fd [x] sp) (hbind:∀ (s:Shared) (u:Value),BindsTo s fd ⟨[u],[]⟩ [(x,u)])
  (hsp:∀ H:Hp,Only H→SqL K H a (ns.map V.int)→sp [.ref a] H (fun v _=>v=.bl true) fun _ _ _=>False)
  (hCX:∀ H e s',CX [] H s₁ (fun _ _ _=>False) e s'→False) :
  codeAny (model P w) callerA (.call (.ref fa) ⟨[.ref a],[]⟩) (fun r s'=>r=.ok (.ret (.bool true))∧OldK s₁.heap s'.heap∧s'.os=s₁.os∧AllBare s'.gens) s₁:=by
 have rv:=j52 hi
 have lenV:=hi.length
 have core:∀ H:Hp,Only H→SqL K H a (ns.map V.int)→HOk P w H s₁.heap→(∀ b,H b≠none→b=a)→(H a≠none→K.lookup a=none) →
   codeAny (model P w) callerA (.call (.ref fa) ⟨[.ref a],[]⟩) (fun r s'=>r=.ok (.ret (.bool true))∧OldK s₁.heap s'.heap∧s'.os=s₁.os∧AllBare s'.gens) s₁:=by
  intro H hO hS hok hA hK
  have base_of:∀ {b:Addr}{o:Obj},s₁.heap.get? b=some o→H b=none→(hidT s₁.heap H).get? b=some o:=fun e n=>jby e n
  have noA:∀ {b:Addr}{o:Obj}{es:Array DictEntry}{ep:Nat},s₁.heap.get? b=some o→o.data=.dict es ep→H b=none:=fun {b o es ep} e d=>by
   cases q:H b with
   | none=>rfl
   | some u =>
    have e':b=a:=hA b (by rw[q];simp)
    subst e'
    rw[ha] at e;cases e
    have d':Data.seq vs.toArray _=Data.dict es ep:=d
    cases d'
  have nsK:∀ {b:Addr}{m:Str→Option Value},s₁.heap.Ns b m→(hidT s₁.heap H).Ns b m:=fun {b m} ⟨o,es,ep,e,d,r⟩=>⟨o,es,ep,base_of e (noA e d),d,r⟩
  have hKb:K.In (hidT s₁.heap H):=fun b o e=>base_of (KX b o e) (by
   cases q:H b with
   | none=>rfl
   | some u =>
    have e':b=a:=hA b (by rw[q];simp)
    subst e'
    rw[hK (by rw[q];simp)] at e;cases e)
  have hM:Mod K mg (hidT s₁.heap H):=⟨hKb,nsK hns,⟨mb,nsK hb,hbb⟩,let ⟨mc,h1,h2⟩:=hlim;⟨mc,nsK h1,h2⟩,by
   obtain⟨bm,ob,b1,b2,b3,b4,b5⟩:=hbm
   refine⟨bm,ob,b1,b2,base_of b3 ?_,b4,b5⟩
   cases q:H bm with
   | none=>rfl
   | some u =>
    have e':bm=a:=hA bm (by rw[q];simp)
    subst e'
    rw[ha] at b3
    cases b3
    injection b4 with b4
    exact absurd b4 (by decide)⟩
  have e0:Env0 P w K mg (hidT s₁.heap H) callerA [] s₁ H:=⟨rfl,hM,fun b o e=>jd8 e,Nat.le_of_eq (ja5 _ _),trivial,fun b hb=>absurd (show b∈([]:List Addr) from hb) (by simp),hok,.of_eq hg⟩
  refine codeAny_mono ((F _ hKb (nsK hns)).run callerA [] s₁ H ⟨[.ref a],[]⟩ [.ref a] [.ref a] _ _ hr e0 (hbind s₁ (.ref a)) (.cons rfl .nil) (hsp H hO hS)) fun r s' h=>?_
  cases r with
  | error e=>exact (hCX H e s' h).elim
  | ok fl =>
   cases fl with
   | next=>exact False.elim h
   | brk=>exact False.elim h
   | cont=>exact False.elim h
   | ret u =>
    obtain⟨v,H',os,bare,un,hok',r',q⟩:=h
    have q':v=.bl true:=q
    subst q'
    obtain rfl:u=Value.bool true:=r'
    refine⟨rfl,OldK.of_keep fun b o e=>?_,os,bare⟩
    cases q:H b with
    | none=>exact un.keep b o e q (by intro z;exact absurd (show b∈([]:List Addr) from z) (by simp)) (by simp)
    | some u =>
     rcases hO b with z | ⟨ob,xs,z⟩
     ·rw[q] at z;cases z
     ·have z2:=un.frzs b ob _ z
      obtain⟨e1,_⟩:=hok b _ z
      obtain⟨e2,_⟩:=hok' b _ z2
      rw[e] at e1;cases e1
      exact e2
 cases hk:K.lookup a with
 | some o =>
  have e:=KX a o hk
  rw[ha] at e
  cases e
  refine core (fun _=>none) (fun _=>.inl rfl) (.inr ⟨_,vs.toArray,_,hk,rfl,rfl,rfl,by rw[List.size_toArray,lenV];exact hl,by simpa using rv⟩) (fun b u z=>by have z':(none:Option HO)=some u:=z;cases z') (fun b z=>absurd rfl z) fun z=>absurd rfl z
 | none =>
  refine core (fun b=>if b=a then some (.frz { cls:=.type "list",data:=.seq vs.toArray } (.lst (ns.map V.int))) else none) (fun b=>?_) (.inl (.inr ⟨{ cls:=.type "list",data:=.seq vs.toArray },if_pos rfl⟩)) (fun b u z=>?_) (fun b z=>?_) fun _=>hk
  ·by_cases hb:b=a
   ·exact .inr ⟨_,_,if_pos hb⟩
   ·exact .inl (if_neg hb)
  ·by_cases hb:b=a
   ·have z':=(if_pos hb).symm.trans z
    cases z'
    subst hb
    exact⟨ha,by rw[List.length_map];exact hl,vs,_,rv,ha⟩
   ·have z':=(if_neg hb).symm.trans z
    cases z'
  ·by_cases hb:b=a
   ·exact hb
   ·exact absurd (if_neg hb) z
abbrev KOf {K:PySem.W.Frag}{h:Heap} (_:K.In h):PySem.W.Frag:=K
theorem walk_of {l:PySem.W.OpenLaw}{n k:Nat}{q:Program}{loose:List Str}{XP:(Str→Option Value)→Heap→Prop}{YP:World→Heap→Prop}{d:DefRec}{K:Params→PySem.W.Frag}{CX:World→CXT}{sp:World→Sp}{x:Str}
  (hn:l.most=some n) (hn2:n≤sizeLine) (hdf:d.params.defaults=[]) (hr:Room k callerA)
  (hY:∀ (w:World) (h:Heap),YP w h→(K w.params).In h)
  (F:∀ (w:World) (mg:Str→Option Value) (fa:Addr) (h:Heap),(K w.params).In h→h.Ns mainGlobals mg→mg d.name=some (.ref fa) →
   ∃ fd:FuncData,(∀ (s:Shared) (u:Value),BindsTo s fd ⟨[u],[]⟩ [(x,u)]) ∧
    ∀ base:Heap,(K w.params).In base→base.Ns mainGlobals mg→FnOk l.prog w (K w.params) mg base (CX w) k fa fd [x] (sp w))
  (hsp:∀ (w:World) (H:Hp) (a:Addr) (ns:List Int),ns.length≤n→Only H→SqL (K w.params) H a (ns.map V.int)→sp w [.ref a] H (fun v _=>v=.bl true) fun _ _ _=>False)
  (hCX:∀ (w:World) (H:Hp) (s:Shared) (e:Value) (s':Shared),CX w [] H s (fun _ _ _=>False) e s'→False) :
  PySem.W.WalkO q loose XP YP l.row.toRowW d [] (fun f vs=>PySem.call f vs):=by
 refine Att.attach_call hn hdf fun w s₀ s₁ mg mb fa o pm cd doc a vs ns G Y ho hd hcd hmg hobj hints hlen hg=>?_
 have KX:=hY w _ Y
 obtain⟨fd,hb,hF⟩:=F w mg fa _ KX G.T.g hmg
 exact j98 KX G.T.g G.T.b G.T.builtins G.T.nolimit G.T.bmain hg hobj hints (Nat.le_trans hlen hn2) hr hF hb (fun H hO hS=>hsp w H a ns hlen hO hS) fun H e s'=>hCX w H s₁ e s'
def j0n (s:Stmt) (j:Nat):Stmt:=match s with
 | .ClassDef _ _ _ body _ _ _ _ _ _ _=>body.getD j (.Pass ⟨0,0,0,0⟩)
 | _=>.Pass ⟨0,0,0,0⟩
def j2h (s:Stmt):Arguments:=match s with
 | .FunctionDef _ a _ _ _ _ _ _ _ _=>a
 | _=>{ posonlyargs:=[],args:=[],vararg:=none,kwonlyargs:=[],kw_defaults:=[],kwarg:=none,defaults:=[] }
def j20 (s:Stmt):List Stmt:=match s with
 | .FunctionDef _ _ b _ _ _ _ _ _ _=>b
 | _=>[]
def j06 (s:Stmt):Scope:=match s with
 | .FunctionDef _ _ _ _ _ _ sc _ _ _=>sc
 | _=>{ kind:=.function,names:=[],isGenerator:=false,isCoroutine:=false }
abbrev E0:XK:=fun _ _ _=>False
structure Fun (K:PySem.W.Frag) (x qual:Str) (st:Stmt) (f:Addr) (fd:FuncData):Prop where
 ex:∃ (oc:Value) (od:Option Addr) (kV doc pm:Value) (an:Option Addr) (cdv ct:Value) (osl:Array (Option Value)),
  fd=PySem.W.fnOf x qual (j2h st) (j20 st) (j06 st) .none kV doc pm an cdv ct∧K.lookup f=some ⟨oc,od,.func fd,osl⟩∧PySem.W.codeIn K cdv qual=true
 kp:PySem.W.keepIn K (.ref f)=true
section
variable {P:Program}{w:World}{K:PySem.W.Frag}{mg:Str→Option Value}{base:Heap}
theorem Fun.binds {x qual:Str}{st:Stmt}{f:Addr}{fd:FuncData}{ps:List Str} (F:Fun K x qual st f fd)
  (h:∀ (kV doc pm:Value) (an:Option Addr) (cdv ct:Value) (us:List Value),us.length=ps.length→bindArgs (PySem.W.fnOf x qual (j2h st) (j20 st) (j06 st) .none kV doc pm an cdv ct) ⟨us,[]⟩=pure (ps.zip us)):Binds K fd ps []:=by
 obtain⟨oc,od,kV,doc,pm,an,cdv,ct,osl,rfl,lk,hcd⟩:=F.ex
 exact .all (h kV doc pm an cdv ct)
theorem fun_mk {x qual:Str}{st:Stmt}{f:Addr}{oc:Value}{od an:Option Addr}{osl:Array (Option Value)}{kV doc pm cdv ct:Value} (l:K.lookup f=some ⟨oc,od,.func (PySem.W.fnOf x qual (j2h st) (j20 st) (j06 st) .none kV doc pm an cdv ct),osl⟩)
  (c:PySem.W.codeIn K cdv qual=true) (k:PySem.W.keepIn K (.ref f)=true):Fun K x qual st f (PySem.W.fnOf x qual (j2h st) (j20 st) (j06 st) .none kV doc pm an cdv ct):=⟨⟨oc,od,kV,doc,pm,an,cdv,ct,osl,rfl,l,c⟩,k⟩
end
section
variable {X:Cx}
theorem pv (i:Nat) {x:Str}{pos:Pos} (hN:X.N[i]?=some x:=by rfl) (hv:Vis X.env.scope x:=by first | exact Or.inl rfl | exact Or.inr (Or.inl rfl) | exact Or.inr (Or.inr rfl)) (hd:(x == ("__debug__":Str))=false:=by decide)
  (hcd:(x == ("__classdict__":Str))=false:=by decide):PE X (.Name x pos) (tVar i):=pe_var hN hv hd hcd
end
theorem iteF {A B:Prop} (h:B):if false=true then A else B:=by
 rw[if_neg Bool.false_ne_true]
 exact h
theorem iteT {A B:Prop} (h:A):if true=true then A else B:=by
 rw[if_pos rfl]
 exact h
structure Pass (fs:List Addr) (n:Nat) (H:Hp) (h h':Heap):Prop where
 keep:∀ b o,h.get? b=some o→b∉fs→(b < n∨H b≠none∨∀ vs,o.data≠.fields vs)→h'.get? b=some o
 slot:∀ b o,h.get? b=some o→b∈fs→∃ sl,h'.get? b=some { o with slots:=sl }
 there:∀ b o,h.get? b=some o→∃ o',h'.get? b=some o'
def Head (n:Nat) (H:Hp) (h:Heap) (a:Addr) (vs:Array Value) (fl:Value):Prop :=
 (vs[1]?=some .none∧fl=.none)∨∃ T oT ts,vs[1]?=some (.ref T)∧n≤T∧H T=none∧T≠a∧h.get? T=some oT∧oT.data=.fields ts∧ts[3]?=some fl
structure Err (n:Nat) (H:Hp) (h:Heap) (a:Addr) (C:Value) (dx:Option Addr) (fl:Value):Prop where
 new:n≤a
 un:H a=none
 obj:∃ oe vs,h.get? a=some oe∧oe.cls=C∧oe.dict=dx∧oe.data=.fields vs∧1 < vs.size∧Head n H h a vs fl
section
variable {X:Cx}{pins:List (Addr × Obj)}{σ:St}{H:Hp}{s:Shared}{h':Heap}
open Classical in
end
def CXE (P:Program) (w:World):CXT:=fun outer H s E e s' =>
 ∃ a C dx H',e=.ref a∧s'.os=s.os∧AllBare s'.gens∧Un (frs outer) [] H H' s.heap s'.heap∧HOk P w H' s'.heap∧Err s.heap.objs.size H' s'.heap a C dx .none∧E C dx H'
theorem passE0 {X:Cx}{P:Program}{w:World}:j50 (CXE P w) X E0:=fun _ _ _ _ _ _ _ h=>by
 obtain⟨_,_,_,_,_,_,_,_,_,_,q⟩:=h
 exact q.elim
section
variable {X:Cx}{E:XK}
structure Own (X:Cx):Prop where
 stk:X.stack=X.env :: X.outer
 frm:X.env.frame=some X.env.locals
 pn:X.pn=[]
end
open PySem.Builtin PySem.Builtin.ObjectAttr
structure ErrC (K:PySem.W.Frag) (C:Addr) (bm:List Value):Prop where
 at_:∃ nm q N bs hdct sn sub ab col dd k0 k1 k2 k3 k5 newId,K.lookup C=some (excClassObj nm q C N bs bm hdct sn sub ab col dd k0 k1 k2 k3 k5 newId)
 base:bm.contains (.type "BaseException")=true
structure ErrM (K:PySem.W.Frag) (C f:Addr) (bm bmB:List Value) (B newId initId:String):Prop where
 at_:∃ nm q N bs hdct sn sub ab col dd k0 k1 k2 k3 k5,K.lookup C=some (excClassObj nm q C N bs bm hdct sn sub ab col dd k0 k1 k2 k3 k5 newId)
 facts:ExcBaseFacts B newId initId bmB
 hasB:bm.contains (.type B)=true
 noA:bm.contains (.type "AttributeError")=false
 noN:bm.contains (.type "NameError")=false
 base:bm.contains (.type "BaseException")=true
 init:PySem.W.findIn K (.ref C) "__init__"=some (some (.ref f))
 fn:PySem.W.isFn K (.ref f)=true
 kp:PySem.W.keepIn K (.ref C)=true
structure ErrS (K:PySem.W.Frag) (C:Addr) (f:Str) (bm:List Value):Prop where
 at_:∃ nm q N bs sn sub ab col dd k0 k1 k2 k3 k5 newId,K.lookup C=some (excClassObj nm q C N bs bm true sn sub ab col dd k0 k1 k2 k3 k5 newId)
 passes:∀ x:Addr,refuseLoop (.ref x) "__setattr__" bm=pure ()
 obj:bm.contains (.type "object")=true
 set:PySem.W.findIn K (.ref C) "__setattr__"=some (some (.builtin "object.__setattr__"))
 none:PySem.W.findIn K (.ref C) f=some none
def Ext (H H':Hp):Prop:=∀ b o,H b=some o→H' b=some o
theorem Ext.rfl' {H:Hp}:Ext H H:=fun _ _ h=>h
theorem Ext.tr {H H1 H2:Hp} (a:Ext H H1) (b:Ext H1 H2):Ext H H2:=fun c o h=>b c o (a c o h)
theorem j1c {H:Hp}{p:Addr}{o:HO} (n:H p=none):Ext H (upd H p o):=fun b u h=>by
 rw[j0o (j05 h n)];exact h
theorem Ext.free {H H':Hp} (e:Ext H H') {l:Addr} (h:H' l=none):H l=none:=by
 cases q:H l with
 | none=>rfl
 | some o=>rw[e l o q] at h;cases h
theorem Ext.rd {H H':Hp}{a:Addr}{u:HO} (e:Ext H H') (h:Rd H a u):Rd H' a u:=by
 rcases h with h | ⟨o,h⟩
 ·exact .inl (e _ _ h)
 ·exact .inr ⟨o,e _ _ h⟩
theorem Ext.seqL {K:PySem.W.Frag}{H H':Hp}{a:Addr}{xs:List V} (e:Ext H H') (h:SqL K H a xs):SqL K H' a xs:=h.elim (fun h=>.inl (e.rd h)) .inr
theorem Ext.seqT {K:PySem.W.Frag}{H H':Hp}{a:Addr}{xs:List V} (e:Ext H H') (h:SqT K H a xs):SqT K H' a xs:=h.elim (fun h=>.inl (e.rd h)) .inr
theorem up {H H':Hp}{p:Addr}{o:HO} (e:Ext H H') (h:H p=some o):H' p=some o:=e _ _ h
def But (x:Addr) (H H':Hp):Prop:=∀ b o,b≠x→H b=some o→H' b=some o
theorem But.tr {x:Addr}{H H1 H2:Hp} (a:But x H H1) (b:But x H1 H2):But x H H2:=fun c o n h=>b c o n (a c o n h)
theorem Ext.toBut {x:Addr}{H H1 H2:Hp} (a:Ext H H1) (b:But x H1 H2):But x H H2:=fun c o n h=>b c o n (a c o h)
theorem Ext.but {x:Addr}{H H1 H2:Hp} (a:Ext H H1) (b:But x H1 H2) (n:H x=none):Ext H H2:=fun c o h=>b c o (j05 h n) (a c o h)
theorem j99 {H:Hp}{p:Addr}{o:HO}:But p H (upd H p o):=fun b u n h=>by rw[j0o n];exact h
inductive Kd where | non | bl | int | str | tup | lst | dct
 deriving DecidableEq
def Kd.ty:Kd→String
 | .non=>"NoneType" | .bl=>"bool" | .int=>"int" | .str=>"str" | .tup=>"tuple" | .lst=>"list" | .dct=>"dict"
def HasK (H:Hp):V→Kd→Prop
 | .non,k=>k=.non
 | .bl _,k=>k=.bl
 | .int _,k=>k=.int
 | .str _,k=>k=.str
 | .ref a,k=>(∃ xs,H a=some (.tup xs)∧k=.tup)∨(∃ xs,H a=some (.lst xs)∧k=.lst)∨(∃ kvs,H a=some (.dK kvs)∧k=.dct)
 | _,_=>False
theorem HasK.t {H:Hp}{a:Addr}{xs:List V} (h:H a=some (.tup xs)):HasK H (.ref a) .tup:=.inl ⟨xs,h,rfl⟩
theorem HasK.l {H:Hp}{a:Addr}{xs:List V} (h:H a=some (.lst xs)):HasK H (.ref a) .lst:=.inr (.inl ⟨xs,h,rfl⟩)
theorem HasK.d {H:Hp}{a:Addr}{kvs:List (Key × V)} (h:H a=some (.dK kvs)):HasK H (.ref a) .dct:=.inr (.inr ⟨kvs,h,rfl⟩)
theorem HasK.tyOf {K:PySem.W.Frag}{H:Hp}{x:V}{k:Kd} (h:HasK H x k):TyOf K H x (.type k.ty):=by
 cases x with
 | non=>cases (show k=.non from h);exact .non
 | bl b=>cases (show k=.bl from h);exact .bl b
 | int b=>cases (show k=.int from h);exact .int b
 | str b=>cases (show k=.str from h);exact .str b
 | ref a =>
  rcases h with⟨xs,h,rfl⟩ | ⟨xs,h,rfl⟩ | ⟨xs,h,rfl⟩
  ·exact .tup h
  ·exact .lst h
  ·exact .dK h
 | _=>exact (show False from h).elim
inductive D where
 | non | bl (b:Bool) | int (i:Int) | str (x:Str) | tup (l:List D) | lst (l:List D) | dct
def D.kd:D→Kd
 | .non=>.non | .bl _=>.bl | .int _=>.int | .str _=>.str | .tup _=>.tup | .lst _=>.lst | .dct=>.dct
mutual
def Rep (H:Hp):D→V→Prop
 | .non,v=>v=.non
 | .bl b,v=>v=.bl b
 | .int i,v=>v=.int i
 | .str x,v=>v=.str x
 | .tup l,v=>∃ p xs,v=.ref p∧H p=some (.tup xs)∧RepL H l xs
 | .lst l,v=>∃ p xs,v=.ref p∧H p=some (.lst xs)∧RepL H l xs
 | .dct,v=>∃ p kvs,v=.ref p∧H p=some (.dK kvs)
def RepL (H:Hp):List D→List V→Prop
 | [],xs=>xs=[]
 | d :: r,xs=>∃ x t,xs=x :: t∧Rep H d x∧RepL H r t
end
def jdm:HO→Bool
 | .tup _=>true | .lst _=>true | .dK _=>true | _=>false
def Kp (H H':Hp):Prop:=∀ b o,H b=some o→jdm o=true→H' b=some o
theorem Ext.kp {H H':Hp} (e:Ext H H'):Kp H H':=fun b o h _=>e b o h
mutual
theorem Rep.keep' {H H':Hp} (e:Kp H H'):∀ (d:D) {v:V},Rep H d v→Rep H' d v
 | .non,_,h=>by unfold Rep at h ⊢;exact h
 | .bl _,_,h=>by unfold Rep at h ⊢;exact h
 | .int _,_,h=>by unfold Rep at h ⊢;exact h
 | .str _,_,h=>by unfold Rep at h ⊢;exact h
 | .tup l,_,h=>by unfold Rep at h ⊢;obtain⟨p,xs,h1,h2,h3⟩:=h;exact⟨p,xs,h1,e _ _ h2 rfl,RepL.keep' e l h3⟩
 | .lst l,_,h=>by unfold Rep at h ⊢;obtain⟨p,xs,h1,h2,h3⟩:=h;exact⟨p,xs,h1,e _ _ h2 rfl,RepL.keep' e l h3⟩
 | .dct,_,h=>by unfold Rep at h ⊢;obtain⟨p,xs,h1,h2⟩:=h;exact⟨p,xs,h1,e _ _ h2 rfl⟩
theorem RepL.keep' {H H':Hp} (e:Kp H H'):∀ (l:List D) {xs:List V},RepL H l xs→RepL H' l xs
 | [],_,h=>by unfold RepL at h ⊢;exact h
 | d :: r,_,h=>by unfold RepL at h ⊢;obtain⟨x,t,h1,h2,h3⟩:=h;exact⟨x,t,h1,Rep.keep' e d h2,RepL.keep' e r h3⟩
end
theorem Rep.keep {H H':Hp}{d:D}{v:V} (h:Rep H d v) (e:Kp H H'):Rep H' d v:=Rep.keep' e d h
theorem RepL.keep {H H':Hp}{d:List D}{v:List V} (h:RepL H d v) (e:Kp H H'):RepL H' d v:=RepL.keep' e d h
theorem Rep.mono {H H':Hp}{d:D}{v:V} (h:Rep H d v) (e:Ext H H'):Rep H' d v:=h.keep e.kp
theorem RepL.mono {H H':Hp}{d:List D}{v:List V} (h:RepL H d v) (e:Ext H H'):RepL H' d v:=h.keep e.kp
theorem RepL.length {H:Hp}:∀ {l:List D}{xs:List V},RepL H l xs→l.length=xs.length
 | [],_,h=>by unfold RepL at h;rw[h];rfl
 | d :: r,_,h=>by unfold RepL at h;obtain⟨x,t,rfl,_,h3⟩:=h;rw[List.length_cons,List.length_cons,RepL.length h3]
theorem RepL.get {H:Hp}:∀ {l:List D}{xs:List V}{i:Nat}{x:V},RepL H l xs→xs[i]?=some x→∃ d,l[i]?=some d∧Rep H d x
 | [],_,i,x,h,e=>by unfold RepL at h;subst h;simp at e
 | d :: r,_,0,x,h,e=>by unfold RepL at h;obtain⟨y,t,rfl,h2,_⟩:=h;simp at e;subst e;exact⟨d,rfl,h2⟩
 | d :: r,_,i+1,x,h,e=>by unfold RepL at h;obtain⟨y,t,rfl,_,h3⟩:=h;obtain⟨z,z1,z2⟩:=RepL.get (i:=i) h3 (by simpa using e);exact⟨z,by simpa using z1,z2⟩
theorem RepL.nil {H:Hp}:RepL H [] []:=by unfold RepL;rfl
theorem RepL.cons {H:Hp}{d:D}{x:V}{l:List D}{xs:List V} (h:Rep H d x) (t:RepL H l xs):RepL H (d :: l) (x :: xs):=by unfold RepL;exact⟨x,xs,rfl,h,t⟩
theorem Rep.intI {H:Hp}{i:Int}:Rep H (.int i) (.int i):=by unfold Rep;rfl
theorem Rep.strI {H:Hp}{b:Str}:Rep H (.str b) (.str b):=by unfold Rep;rfl
theorem Rep.tupI {H:Hp}{p:Addr}{xs:List V}{l:List D} (h:H p=some (.tup xs)) (r:RepL H l xs):Rep H (.tup l) (.ref p):=by unfold Rep;exact⟨p,xs,rfl,h,r⟩
theorem Rep.lstI {H:Hp}{p:Addr}{xs:List V}{l:List D} (h:H p=some (.lst xs)) (r:RepL H l xs):Rep H (.lst l) (.ref p):=by unfold Rep;exact⟨p,xs,rfl,h,r⟩
theorem RepL.ints {H:Hp}:∀ ns:List Int,RepL H (ns.map D.int) (ns.map V.int)
 | []=>.nil
 | _ :: r=>.cons .intI (RepL.ints r)
theorem Rep.kd {H:Hp}{d:D}{v:V} (h:Rep H d v):HasK H v d.kd:=by
 cases d with
 | tup l=>unfold Rep at h;obtain⟨p,xs,rfl,h,_⟩:=h;exact .t h
 | lst l=>unfold Rep at h;obtain⟨p,xs,rfl,h,_⟩:=h;exact .l h
 | dct=>unfold Rep at h;obtain⟨p,xs,rfl,h⟩:=h;exact .d h
 | _=>unfold Rep at h;subst h;exact rfl
mutual
def D.fine:D→Bool
 | .tup l=>D.fineL l
 | .lst l=>D.fineL l
 | .dct=>false
 | _=>true
def D.fineL:List D→Bool
 | []=>true
 | d :: r=>d.fine && D.fineL r
def D.depth:D→Nat
 | .tup l=>D.depthL l+1
 | .lst l=>D.depthL l+1
 | _=>0
def D.depthL:List D→Nat
 | []=>0
 | d :: r=>max d.depth (D.depthL r)
end
theorem j7j:∀ {l:List D}{n i:Nat}{d:D},D.depthL l≤n→l[i]?=some d→d.depth≤n
 | [],_,_,_,_,e=>by simp at e
 | x :: r,n,0,d,h,e=>by simp at e;subst e;unfold D.depthL at h;omega
 | x :: r,n,i+1,d,h,e=>by unfold D.depthL at h;exact j7j (l:=r) (by omega) (by simpa using e)
theorem j24 (ns:List Int):D.depthL (ns.map D.int)=0:=by
 induction ns with
 | nil=>rfl
 | cons n r ih=>show max (D.depth (.int n)) (D.depthL (r.map D.int))=0;rw[ih];rfl
abbrev CXU (P:Program) (w:World):CXT:=CXE P w
theorem j0d {X:Cx}{P:Program}{w:World}:j50 (CXU P w) X E0:=passE0
theorem noneU {P:Program}:∀ (w:World) (H:Hp) (s:Shared) (e:Value) (s':Shared),CXU P w [] H s (fun _ _ _=>False) e s'→False:=fun _ _ _ _ _ h=>by
 obtain⟨_,_,_,_,_,_,_,_,_,_,q⟩:=h
 exact q
theorem FnOk.no {P:Program}{w:World}{K:PySem.W.Frag}{mg:Str→Option Value}{base:Heap}{CX:CXT}{k:Nat}{f:Addr}{fd:FuncData}{ps:List Str}:FnOk P w K mg base CX k f fd ps (fun _ _ _ _=>False) :=
 ⟨fun _ _ _ _ h=>h.elim,fun _ _ _ _ _ _ _ _ _ _ _ _ _ h=>h.elim⟩
section
variable {P:Program}{w:World}{K:PySem.W.Frag}{mg:Str→Option Value}{base:Heap}
theorem Fun.okU {x qual:Str}{st:Stmt}{f:Addr}{fd:FuncData}{N ps:List Str}{k:Nat}{sp:Sp} (F:Fun K x qual st f fd) (S:FnScope N ps (j06 st)) (len:∀ vs H Q E,sp vs H Q E→vs.length=ps.length)
  (hbody:∀ (cdv:Value) (A:Around) (outer:List Env) (s:Shared) (H:Hp) (vs:List V) (Q:VK) (E:XK),Room k (A.deeper (envOfC qual (j06 st) s.heap.objs.size f cdv))→sp vs H Q E →
   ∃ t,PSs (cxOf (CXU P w) P w K mg base N qual (j06 st) f cdv A outer s H E).nox (j20 st) t∧t { nx:=fun _ H'=>Q .non H',rt:=Q } (start N vs) H):FnOk P w K mg base (CXU P w) (k+1) f fd ps sp:=by
 obtain⟨oc,od,kV,doc,pm,an,cdv,ct,osl,rfl,lk,hcd⟩:=F.ex
 refine fn_of lk hcd S len fun A outer s H vs Q E hr hsp=>?_
 obtain⟨t,h,q⟩:=hbody cdv A outer s H vs Q E hr hsp
 exact⟨t,h.nox,q⟩
end
abbrev ib:Int→Nat:=Builtin.Int.intBits
theorem j85 {ns:List Int} (h:PySem.W.WData.layableAll [.list (ns.map .int)]=true):∀ z∈ns,ib z≤1048576:=fun z hz=>by
 have h1:=PySem.W.layableW_arg h _ (List.mem_singleton.mpr rfl)
 have h2:=PySem.W.layableW_item h1 (.int z) (List.mem_map.mpr ⟨z,hz,rfl⟩)
 have h3:=(PySem.W.layableW_iff.mp h2).2.2
 simpa[PySem.W.WData.weight,ib,Builtin.Int.intBits] using h3
end L2
namespace L2
open PySem PySem.W PySem.Calls PyProof.Rows
theorem j6i {l:OpenLaw}{n:Nat}{q:Program}{loose:List Str}{XP:(Str→Option Value)→Heap→Prop}{YP:World→Heap→Prop}{d:DefRec}
  (hn:l.most=some n) (hdf:d.params.defaults=[])
  (call:∀ (w:World) (s₀ s₁:Shared) (mg mb:Str→Option Value) (fa:Addr) (o:Obj) (pm cd doc:Value) (a:Addr) (vs:List Value) (ns:List Int),
   Ground q loose [] XP w s₀ mg mb s₁.heap→YP w s₁.heap →
   s₁.heap.get? fa=some o→o.data=.func (docDef d.name d.params d.body d.scope pm cd doc)→s₁.heap.CodeRec cd d.name→mg d.name=some (.ref fa) →
   s₁.heap.get? a=some { cls:=.type "list",data:=.seq vs.toArray }→IntsAre vs ns→ns.length≤n→(∀ z∈ns,ib z≤1048576)→s₁.gens=#[] →
   codeAny (model l.prog w) callerA (.call (.ref fa) ⟨[.ref a],[]⟩) (fun r s'=>r=.ok (.ret (.bool true))∧OldK s₁.heap s'.heap∧s'.os=s₁.os∧AllBare s'.gens) s₁) :
  WalkO q loose XP YP l.row.toRowW d [] (fun f vs=>PySem.call f vs):=by
 intro w s₀ s₁ mg mb G Y fa o pm cd doc dV kV ho hd hcd hD hmg hg args vals as hpre hlay hrd hwl hlo
 obtain rfl:dV=.none:=Dflts.none hD hdf
 obtain rfl:kV=.none:=Dflts.noKw hD
 obtain⟨a,vs,ns,rfl,rfl,hobj,hints,hlen⟩:=Att.script_of hn hpre hwl
 refine enter_call (codeAny_mono (call w s₀ s₁ mg mb fa o pm cd doc a vs ns G Y ho (fd_plain hd) hcd hmg hobj hints hlen (j85 hlay) hg) fun r s' hq=>?_)
 obtain⟨rfl,h2,h3,h4⟩:=hq
 exact⟨.inl ⟨.bool true,.bool true,[],rfl,fun _=>rfl,.bool true,Att.post_true l _,fun _=>⟨List.Pairwise.nil,fun _ hm=>(nomatch hm)⟩⟩,h2,h3,h4⟩
theorem walk_ofB {l:PySem.W.OpenLaw}{n k:Nat}{q:Program}{loose:List Str}{XP:(Str→Option Value)→Heap→Prop}{YP:World→Heap→Prop}{d:DefRec}{K:Params→PySem.W.Frag}{CX:World→CXT}{sp:World→Sp}{x:Str}
  (hn:l.most=some n) (hn2:n≤sizeLine) (hdf:d.params.defaults=[]) (hr:Room k callerA)
  (hY:∀ (w:World) (h:Heap),YP w h→(K w.params).In h)
  (F:∀ (w:World) (mg:Str→Option Value) (fa:Addr) (h:Heap),(K w.params).In h→h.Ns mainGlobals mg→mg d.name=some (.ref fa) →
   ∃ fd:FuncData,(∀ (s:Shared) (u:Value),BindsTo s fd ⟨[u],[]⟩ [(x,u)]) ∧
    ∀ base:Heap,(K w.params).In base→base.Ns mainGlobals mg→FnOk l.prog w (K w.params) mg base (CX w) k fa fd [x] (sp w))
  (hsp:∀ (w:World) (H:Hp) (a:Addr) (ns:List Int),ns.length≤n→(∀ z∈ns,ib z≤1048576)→Only H→SqL (K w.params) H a (ns.map V.int)→sp w [.ref a] H (fun v _=>v=.bl true) fun _ _ _=>False)
  (hCX:∀ (w:World) (H:Hp) (s:Shared) (e:Value) (s':Shared),CX w [] H s (fun _ _ _=>False) e s'→False) :
  PySem.W.WalkO q loose XP YP l.row.toRowW d [] (fun f vs=>PySem.call f vs):=by
 refine j6i hn hdf fun w s₀ s₁ mg mb fa o pm cd doc a vs ns G Y ho hd hcd hmg hobj hints hlen hbit hg=>?_
 have KX:=hY w _ Y
 obtain⟨fd,hb,hF⟩:=F w mg fa _ KX G.T.g hmg
 exact j98 KX G.T.g G.T.b G.T.builtins G.T.nolimit G.T.bmain hg hobj hints (Nat.le_trans hlen hn2) hr hF hb (fun H hO hS=>hsp w H a ns hlen hbit hO hS) fun H e s'=>hCX w H s₁ e s'
section
variable {X:Cx}
def CMulB (i j:Int):Prop:=(-18446744073709551616 < i∧i < 18446744073709551616)∨(-18446744073709551616 < j∧j < 18446744073709551616)∨IntMulOk i j
theorem CMulB.ok {i j:Int} (h:CMulB i j):IntMulOk i j:=by
 rcases h with⟨h1,h2⟩ | ⟨h1,h2⟩ | h
 ·exact .of_left (intBits_le_64 (by omega) (by omega))
 ·exact .of_right (intBits_le_64 (by omega) (by omega))
 ·exact h
theorem jdn:OpR X (binaryOp .Mult) (rI CMulB fun i j=>.int (i * j)):=opI fun _ _ _ _ _ _ _ hc q=>mul_int q hc.ok
def CDivB (i j:Int):Prop:=0 < j∧j < 1000000000000000000000000000000000000000000000000000000000000
theorem CDivB.no {i j:Int} (h:CDivB i j):Builtin.divisionGoesByPylong i j=false:=by
 refine PyProof.noPylong_of_log2 ?_
 have h1:=h.1
 have h2:=h.2
 have h0:j.natAbs≠0:=by omega
 refine (Nat.log2_lt h0).mpr ?_
 have e:(1000000000000000000000000000000000000000000000000000000000000:Nat) < 2 ^ 9000:=by decide +kernel
 omega
theorem j1o:OpR X (binaryOp .FloorDiv) (rI CDivB fun i j=>.int (i / j)):=opI fun i j _ _ _ _ _ hc q=>by
 have h1:=hc.1
 exact floordiv_int (by omega) (by rw[Int.fdiv_eq_ediv_of_nonneg i (by omega)];exact q) (.inl hc.no)
def jc9 (K:PySem.W.Frag):List V→Hp→VK→Prop:=fun xs H Q=>∃ x t b,((∃ n,xs=[x,.ty n]∧PySem.W.kitOne K t (.type n)=some b)∨∃ C,xs=[x,.ref C]∧PySem.W.kitOne K t (.ref C)=some b)∧TyOf K H x t∧Q (.bl b) H
theorem j28:CallR X (.builtin "isinstance") (jc9 X.K):=by
 intro pins s σ H xs us Q I r h
 obtain⟨x,t,b,hx,ty,q⟩:=h
 rcases hx with⟨n,rfl,e⟩ | ⟨n,rfl,e⟩
 ·obtain⟨u,w',rfl,ru,rw'⟩:=jde r
  obtain rfl:w'=Value.type n:=rw'
  exact j7d I ru ty e fun tk=>⟨.bl b,H,I.tok _,rfl,q⟩
 ·obtain⟨u,w',rfl,ru,rw'⟩:=jde r
  obtain rfl:w'=Value.ref n:=rw'
  exact j7d I ru ty e fun tk=>⟨.bl b,H,I.tok _,rfl,q⟩
theorem jdo {K:PySem.W.Frag} (k:Kd):PySem.W.kitOne K (.type k.ty) (.type "int")=some (k == .int || k == .bl):=by cases k <;> rfl
theorem jca {K:PySem.W.Frag} (k:Kd):PySem.W.kitOne K (.type k.ty) (.type "bool")=some (k == .bl):=by cases k <;> rfl
theorem jdp {K:PySem.W.Frag} (k:Kd):PySem.W.kitOne K (.type k.ty) (.type "str")=some (k == .str):=by cases k <;> rfl
theorem jai {K:PySem.W.Frag} (k:Kd):PySem.W.kitOne K (.type k.ty) (.type "tuple")=some (k == .tup):=by cases k <;> rfl
theorem jcb {K:PySem.W.Frag} (k:Kd):PySem.W.kitOne K (.type k.ty) (.type "list")=some (k == .lst):=by cases k <;> rfl
def rSum (K:PySem.W.Frag):List V→Hp→VK→Prop:=fun xs H Q=>∃ (p:Addr) (ns:List Int),xs=[.ref p]∧SqL K H p (ns.map V.int)∧Q (.int ns.sum) H
theorem cSum (hc:X.calm=true):CallR X (.builtin "sum") (rSum X.K):=by
 intro pins s σ H xs us Q I r h
 obtain⟨p,ns,rfl,hq,q⟩:=h
 obtain⟨u,rfl,rx⟩:=j8y r
 cases rx
 obtain⟨its,r',pl,hz⟩:=I.list hq
 have hi:IntsAre its ns:=j2g r'
 have hall:AllInts its.toArray:=hi.allInts
 obtain⟨ys,e⟩:=hall.items
 refine sum_intListG (I.ok.hd hc) (xs:=ys) (by rw[← e];exact pl.isList) fun h' tk t' hk=>⟨.int ns.sum,H,I.kept hk,⟨t',?_⟩,q⟩
 have e2:numsOf its=ns:=hi.numsOf
 have e3:=nums_intItems (xs:=ys)
 rw[← e] at e3
 rw[preSum_eq,List.take_of_length_le (by simp),← e3]
 exact congrArg (fun z=>Value.int z t') (congrArg List.sum e2)
def rMax2:List V→Hp→VK→Prop:=fun xs H Q=>∃ i j,xs=[.int i,.int j]∧Q (.int (max i j)) H
theorem cMax2 (hc:X.calm=true):CallR X (.builtin "max") rMax2:=by
 intro pins s σ H xs us Q I r h
 obtain⟨i,j,rfl,q⟩:=h
 refine jac hc pins s σ H _ us Q I r ⟨i,j,rfl,?_⟩
 have e:(if j > i then j else i)=max i j:=by split <;> omega
 rw[e];exact q
def rMin2:List V→Hp→VK→Prop:=fun xs H Q=>∃ i j,xs=[.int i,.int j]∧Q (.int (min i j)) H
theorem cMin2 (hc:X.calm=true):CallR X (.builtin "min") rMin2:=by
 intro pins s σ H xs us Q I r h
 obtain⟨i,j,rfl,q⟩:=h
 refine jad hc pins s σ H _ us Q I r ⟨i,j,rfl,?_⟩
 have e:(if j < i then j else i)=min i j:=by split <;> omega
 rw[e];exact q
def rAbs:List V→Hp→VK→Prop:=fun xs H Q=>∃ i:Int,xs=[.int i]∧Q (.int (i.natAbs:Int)) H
theorem cAbs:CallR X (.builtin "abs") rAbs:=by
 intro pins s σ H xs us Q I r h
 obtain⟨i,rfl,q⟩:=h
 refine jc3 pins s σ H _ us Q I r ⟨i,rfl,?_⟩
 have e:(if i < 0 then -i else i)=(i.natAbs:Int):=by split <;> omega
 rw[e];exact q
def rLen (K:PySem.W.Frag):List V→Hp→VK→Prop:=fun xs H Q=>∃ x n,xs=[x]∧LenV K x H n∧Q (.int n) H
theorem cLen:CallR X (.builtin "len") (rLen X.K):=jc4
def jg0 (K:PySem.W.Frag):List V→Hp→VK→Prop:=fun xs H Q=>∃ p ys,xs=[.ref p]∧(SqL K H p ys∨SqT K H p ys)∧∀ l,H l=none→Q (.ref l) (upd H l (.lst ys))
theorem ja4:CallR X (.type "list") (jg0 X.K):=j6h
def jdq (K:PySem.W.Frag):List V→Hp→VK→Prop:=fun xs H Q=>∃ p ys,xs=[.ref p]∧((SqL K H p ys∧∀ l,H l=none→Q (.ref l) (upd H l (.tup ys)))∨(SqT K H p ys∧Q (.ref p) H))
theorem j3i:CallR X (.type "tuple") (jdq X.K):=j5n
def rInU (K:PySem.W.Frag) (neg:Bool):R2:=rIn K neg
theorem oIn:OpR X (compareOp .In) (rInU X.K false):=jah
theorem jcc:OpR X (compareOp .NotIn) (rInU X.K true):=j6f
theorem oIx:IxR X (rIx X.K):=ix_seq
def rSlU (K:PySem.W.Frag):V→Option Int→Option Int→Hp→VK→Prop:=fun x lo hi H Q=>rSlT K x lo hi H Q∨rSlL K x lo hi H Q
theorem oSl:SlR X (rSlU X.K):=sl_tup.or jfb
def tTru (K:PySem.W.Frag) (ta:TE):TT:=fun σ H Q=>ta σ H fun x H'=>∃ k,TruV K x H' k∧Q k H'
theorem ptT {a:Expr}{ta:TE} (ha:PE X a ta) (he:∀ whole,isTrue a X.env whole=(do let v ← whole;standAt a.pos;holding [v] (truthy v))):PT X a (tTru X.K ta):=jc2 ha he
structure CMeth (K:PySem.W.Frag) (C:Addr) (m:Str) (f:Addr):Prop where
 ga:PySem.W.specialIn K (.ref C) "__getattribute__"=some (some (.builtin "type.__getattribute__"))
 rd:PySem.W.readsIn K C (.type "type")=true
 at_:PySem.W.findCls K (.ref C) (.type "type") m=some (.val (.ref f))
 kp:PySem.W.keepIn K (.ref f)=true
def jdr (C:Addr) (sp:Sp) (dvs:List V) (E:XK) (ta:TE) (t:TA):TE:=fun σ H Q=>ta σ H fun x H1=>x=.ref C∧t σ H1 fun vs H2=>sp (vs++dvs) H2 Q E
theorem j2s {CX:CXT}{k:Nat}{f C:Addr}{fd:FuncData}{ps:List Str}{sp:Sp}{dvs:List V}{ds:List Value}{E:XK}{m:Str}{pos apos:Pos}{e o:Expr}{es:List Expr}{ta:TE}{t:TA}{pl:Sem Bool}
  (he:PE X o ta) (hm:CMeth X.K C m f) (F:FnOk X.prog X.w X.K X.mg X.base CX k f fd ps sp) (hr:Room k X.A) (hb:Binds X.K fd ps ds) (hd:Vals dvs ds) (hx:j50 CX X E) (ha:PA X (e :: es) t)
  (hst:starEach (e :: es) X.env=(false,eval e X.env) :: starEach es X.env:=by rfl) (hpl:(backTo pos (starEach es X.env)).any (·.1)=false:=by rfl)
  (ht:eval (.Call (.Attribute o m apos) (e :: es) [] pos) X.env=(do
   let ov ← eval o X.env
   standAt apos.atName
   let (f,first) ← holding [ov] (getMethod ov m pl)
   callWith pos f first (backTo pos (starEach (e :: es) X.env)) (backToKw pos (keywordEach [] X.env))):=by rfl) :
  PE X (.Call (.Attribute o m apos) (e :: es) [] pos) (jdr C sp dvs E ta t):=by
 intro pins s σ H Q I h
 refine PySem.W.methodCall_KW (pl:=pl) (thn (he pins s σ H _ I h) fun u s1 ⟨x,H1,I1,rx,ex,q⟩=>?_) ht
 subst ex
 obtain rfl:u=Value.ref C:=rx
 refine PySem.W.method_cls I1.kIn hm.ga (PySem.W.cls_value I1.kIn hm.rd hm.at_ (j7b (v:=.ref f) rfl) ?_)
 refine PySem.W.callWith_K (first:=[]) (h₀:=X.base) I.ok.mod.kin hm.kp (thn (ha pos pins _ σ H1 _ (I1.tok _) q) fun us s2 ⟨vs,H2,I2,r,q2⟩=>⟨I2.kIn,?_⟩) hst hpl
 exact jaf (us:=us) (vs:=vs) F hr hb hd hx I2 r q2
end
section
variable {X:Cx}{pins:List (Addr × Obj)}{σ:St}{H:Hp}{s:Shared}{h':Heap}
theorem Inv.turnLaid {t':Nat}{ch:List Addr}{a:Addr}{o:HO} (I:Inv X pins σ H s) (k:∀ b u,b∉ch→s.heap.get? b=some u→h'.get? b=some u) (hf:∀ b∈ch,FpOk X pins H b)
  (hp:s.heap.objs.size≤a) (new:ObjOk X.prog X.w (upd H a o) h' a o):Inv X pins σ (upd H a o) { s with heap:=h',toks:=t' }:=by
 have hn:H a=none:=I.hok.fresh hp
 have nit:∀ b u,H b=some u→b∉ch:=fun b u e z=>by rw[(hf b z).1] at e;cases e
 have old:∀ b u,H b=some u→upd H a o b=some u:=fun b u e=>by rw[j0o (j05 e hn)];exact e
 refine I.step (g':=s.gens) (d':=s.drawn) (ch:=ch) (fun b hb=>?_) (fun b u _ _ hc e _=>k b u hc e) (fun b u _ _ hc e _=>⟨u.slots,k b u hc e⟩) (fun b u _ e n=>?_)
  (fun b u hc e=>⟨u,k b u hc e⟩) (fun b xs e=>old _ _ e) (fun b _ _ e=>old _ _ e) (fun b ps e=>⟨#[],by rw[old _ _ e];simp⟩) (fun m hm=>?_) (fun b u e=>?_) I.bare
 ·obtain⟨_,f1,_,f3,f4,f5⟩:=hf b hb
  exact⟨f3,f1,f4,f5⟩
 ·rw[j0o (fun z=>by subst z;exact absurd (Heap.lt_size e) (Nat.not_lt.mpr hp))];exact n
 ·obtain⟨ol,es,ep,ho,r⟩:=hm
  exact⟨ol,es,ep,k _ ol (fun z=>(hf _ z).2.1 rfl) ho,r⟩
 ·by_cases hb:b=a
  ·subst hb;rw[j0k] at e;cases e;exact new
  ·rw[j0o hb] at e
   refine (I.hok b u e).stay (fun c v hc q=>k c v ?_ q) (fun c q=>old _ _ q) fun c xs q=>old _ _ q
   rcases hc with z | z
   ·rw[z];exact nit b u e
   ·exact nit c _ z
theorem Inv.turns {t':Nat}{ch:List Addr} (I:Inv X pins σ H s) (k:∀ b u,b∉ch→s.heap.get? b=some u→h'.get? b=some u) (hf:∀ b∈ch,FpOk X pins H b):Inv X pins σ H { s with heap:=h',toks:=t' }:=by
 have nit:∀ b u,H b=some u→b∉ch:=fun b u e z=>by rw[(hf b z).1] at e;cases e
 refine I.step (g':=s.gens) (d':=s.drawn) (ch:=ch) (fun b hb=>?_) (fun b u _ _ hc e _=>k b u hc e) (fun b u _ _ hc e _=>⟨u.slots,k b u hc e⟩) (fun b u _ e n=>n)
  (fun b u hc e=>⟨u,k b u hc e⟩) (fun b xs e=>e) (fun b _ _ e=>e) (fun b ps e=>⟨#[],by rw[e];simp⟩) (fun m hm=>?_) (fun b u e=>?_) I.bare
 ·obtain⟨_,f1,_,f3,f4,f5⟩:=hf b hb
  exact⟨f3,f1,f4,f5⟩
 ·obtain⟨ol,es,ep,ho,r⟩:=hm
  exact⟨ol,es,ep,k _ ol (fun z=>(hf _ z).2.1 rfl) ho,r⟩
 ·refine (I.hok b u e).stay (fun c v hc q=>k c v ?_ q) (fun c q=>q) fun c xs q=>q
  rcases hc with z | z
  ·rw[z];exact nit b u e
  ·exact nit c _ z
end
section
variable {K:PySem.W.Frag}{σ:St}{H:Hp}{Q:VK}{D:Ends}
theorem r_var {i:Nat}{v:V} (h:σ[i]?=some (some v)) (q:Q v H):tVar i σ H Q:=⟨v,h,q⟩
theorem r_c {v:V} (q:Q v H):tC v σ H Q:=q
theorem r_op {r:R2}{ta tb:TE} (q:ta σ H fun x H1=>tb σ H1 fun y H2=>r x y H2 Q):tOp r ta tb σ H Q:=q
theorem r_seq {t u:TS} (q:t { D with nx:=u D } σ H):tSeq t u D σ H:=q
theorem r_asg {te:TE}{g:TG} (q:te σ H fun x H1=>g x σ H1 D.nx):tAsg te g D σ H:=q
theorem jds {i:Nat}{v:V}{R:St→Hp→Prop} (q:R (σ.set i (some v)) H):j68 i v σ H R:=q
theorem r_if {c:TT}{t u:TS} (q:c σ H fun b H1=>if b=true then t D σ H1 else u D σ H1):tIfS c t u D σ H:=q
theorem r_test {t:TE}{R:Bool→Hp→Prop} (q:t σ H fun x H'=>∃ k,x=.bl k∧R k H'):jfo t σ H R:=q
theorem r_bl {b:Bool}{R:Bool→Prop} (q:R b):∃ k,V.bl b=.bl k∧R k:=⟨b,rfl,q⟩
theorem r_I0 {g:Int→Int→V}{i j:Int} (q:Q (g i j) H):rI0 g (.int i) (.int j) H Q:=⟨i,j,rfl,rfl,q⟩
theorem r_I {C:Int→Int→Prop}{g:Int→Int→V}{i j:Int} (c:C i j) (q:Q (g i j) H):rI C g (.int i) (.int j) H Q:=⟨i,j,rfl,rfl,c,q⟩
theorem jdt {i:Int}{j n:Nat}{v:Int} (hi:i.natAbs < 18446744073709551616) (hj:j≤1000) (e:i ^ j=v) (q:Q (.int v) H):rI CPow (fun i j=>.int (i ^ j.toNat)) (.int i) (.int (j:Int)) H Q :=
 ⟨i,j,rfl,rfl,⟨by omega,by omega,Nat.lt_of_lt_of_le hi (by decide)⟩,by show Q (.int (i ^ (j:Int).toNat)) H;rw[Int.toNat_natCast,e];exact q⟩
theorem jdu (q:Q (.int 1000000000000000000) H):rI CPow (fun i j=>.int (i ^ j.toNat)) (.int 10) (.int 18) H Q:=jdt (n:=0) (j:=18) (by decide) (by decide) (by decide) q
theorem r_powM (q:Q (.int 948273388530662767682822077) H):rI CPow (fun i j=>.int (i ^ j.toNat)) (.int 982451653) (.int 3) H Q:=jdt (n:=0) (j:=3) (by decide) (by decide) (by decide) q
theorem r_eqI {i j:Int} (q:Q (.bl (decide (i=j))) H):rEq (.int i) (.int j) H Q:=⟨rfl,by
 rw[show decide (V.int i=V.int j)=decide (i=j) from decide_eq_decide.mpr ⟨fun z=>by cases z;rfl,fun z=>by rw[z]⟩];exact q⟩
theorem r_neI {i j:Int} (q:Q (.bl (!decide (i=j))) H):rNe (.int i) (.int j) H Q:=⟨rfl,by
 rw[show decide (V.int i=V.int j)=decide (i=j) from decide_eq_decide.mpr ⟨fun z=>by cases z;rfl,fun z=>by rw[z]⟩];exact q⟩
theorem r_eqS {i j:Str} (q:Q (.bl (decide (i=j))) H):rEq (.str i) (.str j) H Q:=⟨rfl,by
 rw[show decide (V.str i=V.str j)=decide (i=j) from decide_eq_decide.mpr ⟨fun z=>by cases z;rfl,fun z=>by rw[z]⟩];exact q⟩
theorem r_ret {te:TE} (q:te σ H D.rt):tRet te D σ H:=q
theorem r_next (q:D.nx σ H):jfl D σ H:=q
theorem r_drop {te:TE} (q:te σ H fun _ H1=>D.nx σ H1):tDrop te D σ H:=q
theorem r_not {t:TT}{R:Bool→Hp→Prop} (q:t σ H fun c H1=>R (!c) H1):tNot t σ H R:=q
theorem jdv {te:TE}{R:Bool→Hp→Prop} (q:te σ H fun x H'=>∃ k,TruV K x H' k∧R k H'):tTru K te σ H R:=q
theorem r_blT {b:Bool}{R:Bool→Prop} (q:R b):∃ k,TruV K (.bl b) H k∧R k:=⟨b,rfl,q⟩
theorem jaj {p:Addr}{xs:List V}{R:Bool→Prop} (h:SqL K H p xs) (q:R (!xs.isEmpty)):∃ k,TruV K (.ref p) H k∧R k:=⟨_,.inl ⟨xs,h,rfl⟩,q⟩
theorem r_and {t u:TT}{R:Bool→Hp→Prop} (q:t σ H fun c H1=>if c=true then u σ H1 R else R false H1):tAnd t u σ H R:=q
theorem r_or {t u:TT}{R:Bool→Hp→Prop} (q:t σ H fun c H1=>if c=true then R true H1 else u σ H1 R):tOr t u σ H R:=q
theorem r_andV {ta tb:TE} (q:ta σ H fun x H1=>∃ c,x=.bl c∧if c=true then tb σ H1 Q else Q (.bl false) H1):tAndV ta tb σ H Q:=q
theorem r_orV {ta tb:TE} (q:ta σ H fun x H1=>∃ c,x=.bl c∧if c=true then Q (.bl true) H1 else tb σ H1 Q):tOrV ta tb σ H Q:=q
theorem r_notV {ta:TE} (q:ta σ H fun x H1=>∃ c,x=.bl c∧Q (.bl (!c)) H1):tNotV ta σ H Q:=q
theorem r_ifE {t:TT}{ta tb:TE} (q:t σ H fun c H1=>if c=true then ta σ H1 Q else tb σ H1 Q):tIf t ta tb σ H Q:=q
theorem jdw {r r':R2}{ta tb tc:TE} (q:ta σ H fun x H1=>tb σ H1 fun y H2=>r x y H2 fun z H3=>∃ k,z=.bl k∧if k=true then tc σ H3 fun w H4=>r' y w H4 Q else Q (.bl false) H3):jc1 r r' ta tb tc σ H Q:=q
theorem r_un {r:V→Hp→VK→Prop}{ta:TE} (q:ta σ H fun x H1=>r x H1 Q):tUn r ta σ H Q:=q
theorem r_rU {g:Int→V}{i:Int} (q:Q (g i) H):rU g (.int i) H Q:=⟨i,rfl,q⟩
theorem r_call {sp:Sp}{dvs:List V}{E:XK}{t:TA} (q:t σ H fun vs H1=>sp (vs++dvs) H1 Q E):tCall sp dvs E t σ H Q:=q
theorem r_cb {r:List V→Hp→VK→Prop}{t:TA} (q:t σ H fun vs H1=>r vs H1 Q):tCB r t σ H Q:=q
theorem r_cons {ta:TE}{tr:TA}{R:List V→Hp→Prop} (q:ta σ H fun x H1=>tr σ H1 fun xs H2=>R (x :: xs) H2):tCons ta tr σ H R:=q
theorem r_nil {R:List V→Hp→Prop} (q:R [] H):tNil σ H R:=q
theorem r_meth {C:Addr}{m:Str}{sp:Sp}{dvs:List V}{E:XK}{ta:TE}{t:TA} (q:ta σ H fun x H1=>∃ a dx fs,x=.ref a∧H1 a=some (.ins C dx fs)∧fs.lookup m=none∧t σ H1 fun vs H2=>sp (x :: (vs++dvs)) H2 Q E):jfq C m sp dvs E ta t σ H Q:=q
theorem r_self {C:Addr}{m:Str}{sp:Sp}{dvs:List V}{E:XK}{t:TA}{a dx:Addr}{fs:List (Str × V)} (h:H a=some (.ins C dx fs)) (l:fs.lookup m=none) (q:t σ H fun vs H2=>sp (.ref a :: (vs++dvs)) H2 Q E) :
  ∃ b dx fs,V.ref a=.ref b∧H b=some (.ins C dx fs)∧fs.lookup m=none∧t σ H fun vs H2=>sp (.ref a :: (vs++dvs)) H2 Q E:=⟨a,dx,fs,rfl,h,l,q⟩
theorem jdx {C:Addr}{sp:Sp}{dvs:List V}{E:XK}{ta:TE}{t:TA} (q:ta σ H fun x H1=>x=.ref C∧t σ H1 fun vs H2=>sp (vs++dvs) H2 Q E):jdr C sp dvs E ta t σ H Q:=q
theorem jdy {C:Addr}{R:Prop} (q:R):V.ref C=.ref C∧R:=⟨rfl,q⟩
theorem r_make {C:Addr}{sp:Sp}{dvs:List V}{E:XK}{t:TA} (q:t σ H fun vs H1=>∀ x dx,H1 x=none→H1 dx=none→dx≠x →
 sp (.ref x :: (vs++dvs)) (upd (upd H1 dx (.own x)) x (.ins C dx [])) (fun v H2=>v=.non∧Q (.ref x) H2) E):tMake C sp dvs E t σ H Q:=q
def rFld (K:PySem.W.Frag) (f:Str):V→Hp→VK→Prop:=fun x H Q=>∃ a C dx fs v,x=.ref a∧H a=some (.ins C dx fs)∧Cls K C∧NoAttr K C f∧fs.lookup f=some v∧Q v H
theorem r_fldK {ta:TE}{f:Str} (q:ta σ H fun x H1=>rFld K f x H1 Q):tFld K ta f σ H Q:=q
theorem r_fat {f:Str}{a C dx:Addr}{fs:List (Str × V)}{v:V} (h:H a=some (.ins C dx fs)) (c:Cls K C) (n:NoAttr K C f) (l:fs.lookup f=some v) (q:Q v H):rFld K f (.ref a) H Q:=⟨a,C,dx,fs,v,rfl,h,c,n,l,q⟩
def rSat (K:PySem.W.Frag) (f:Str) (y:V):V→Hp→(Hp→Prop)→Prop:=fun x H Q=>∃ a C dx fs,x=.ref a∧H a=some (.ins C dx fs)∧Cls K C∧NoAttr K C f∧fs.length < 1000∧Q (upd H a (.ins C dx (putF f y fs)))
theorem r_sfld {ta tv:TE}{f:Str} (q:tv σ H fun y H1=>ta σ H1 fun x H2=>rSat K f y x H2 fun H3=>D.nx σ H3):sFld K ta tv f D σ H:=q
theorem j1p {f:Str}{y:V}{a C dx:Addr}{fs:List (Str × V)}{R:Hp→Prop} (h:H a=some (.ins C dx fs)) (c:Cls K C) (n:NoAttr K C f) (l:fs.length < 1000) (q:∀ H',H' a=some (.ins C dx (putF f y fs))→But a H H'→R H'):rSat K f y (.ref a) H R :=
 ⟨a,C,dx,fs,rfl,h,c,n,l,q _ j0k j99⟩
theorem j0y {n:Nat} (h:Nat.ble (n+1) 1000=true):n < 1000:=Nat.le_of_ble_eq_true h
def rNewT (xs:List V) (H:Hp) (Q:VK):Prop:=xs.length≤sizeLine∧∀ p,H p=none→Q (.ref p) (upd H p (.tup xs))
def rNewL (xs:List V) (H:Hp) (Q:VK):Prop:=xs.length≤sizeLine∧∀ p,H p=none→Q (.ref p) (upd H p (.lst xs))
theorem r_tup {t:TA} (q:t σ H fun xs H1=>rNewT xs H1 Q):tTup t σ H Q:=q
theorem r_lst {t:TA} (q:t σ H fun xs H1=>rNewL xs H1 Q):tLst t σ H Q:=q
theorem r_newT {xs:List V} (c:Nat.ble xs.length 1000=true) (q:∀ p H',H p=none→H' p=some (.tup xs)→Ext H H'→Q (.ref p) H'):rNewT xs H Q :=
 ⟨Nat.le_trans (Nat.le_of_ble_eq_true c) (by rw[sizeLine_eq];decide),fun p n=>q p _ n j0k (j1c n)⟩
theorem r_newL {xs:List V} (c:Nat.ble xs.length 1000=true) (q:∀ p H',H p=none→H' p=some (.lst xs)→Ext H H'→Q (.ref p) H'):rNewL xs H Q :=
 ⟨Nat.le_trans (Nat.le_of_ble_eq_true c) (by rw[sizeLine_eq];decide),fun p n=>q p _ n j0k (j1c n)⟩
theorem r_for {wi:TI}{g:TG}{tb:TS} (q:wi σ H fun J H1=>∃ W:Nat→Nat→St→Hp→Prop,(∃ m,W 0 m σ H1)∧∀ i m σ H,W i m σ H →
 (J.stop i H∧D.nx σ H)∨(J.go i H∧∃ N:St→Hp→Prop,(∀ σ' H',N σ' H'→∃ m',m' < m∧W (i+1) m' σ' H')∧∀ x H',J.yld i H x H'→g x σ H' fun σ2 H2=>tb { D with nx:=N,ct:=N,bk:=D.nx } σ2 H2)):tFor wi g tb D σ H:=q
theorem r_rng1 {ta:TA}{R:It→Hp→Prop} (q:ta σ H fun vs H1=>∃ j:Int,vs=[.int j]∧-(2 ^ 62)≤j∧j < 2 ^ 62∧R (Itr 0 j.toNat) H1):iRng1 ta σ H R:=q
theorem jdz {tl:TE}{R:It→Hp→Prop} (q:tl σ H fun x H1=>∃ a,x=.ref a∧(∃ xs,SqL K H1 a xs)∧R (Itl K a) H1):iList K tl σ H R:=q
theorem r_itup {tl:TE}{R:It→Hp→Prop} (q:tl σ H fun x H1=>∃ a,x=.ref a∧(∃ xs,SqT K H1 a xs)∧R (Itt K a) H1):iTup K tl σ H R:=q
theorem r_bm {T:String}{r:V→List V→Hp→VK→Prop}{to:TE}{t:TA} (q:to σ H fun x H1=>tyV K T x H1∧t σ H1 fun vs H2=>r x vs H2 Q):tBM K T r to t σ H Q:=q
theorem r_tyl {p:Addr}{xs:List V}{R:Prop} (h:H p=some (.lst xs)) (q:R):tyV K "list" (.ref p) H∧R:=⟨.inl ⟨rfl,xs,SqL.of h⟩,q⟩
theorem jcd {p:Addr}{xs:List V}{y:V} (h:H p=some (.lst xs)) (l:xs.length < 1000000) (q:∀ H',H' p=some (.lst (xs++[y]))→But p H H'→Q .non H'):jbk (.ref p) [y] H Q :=
 ⟨p,xs,y,rfl,rfl,h,Nat.lt_of_lt_of_le l (by rw[sizeLine_eq];decide),q _ j0k j99⟩
theorem r_gnil {R:St→Hp→Prop} (q:R σ H):gNil [] σ H R:=⟨rfl,q⟩
theorem je0 {t:TG}{u:TGs}{v:V}{r:List V}{R:St→Hp→Prop} (q:t v σ H fun σ' H'=>u r σ' H' R):jd4 t u (v :: r) σ H R:=⟨v,r,rfl,q⟩
theorem je1 {n:Nat}{t:TGs}{a:Addr}{xs:List V}{R:St→Hp→Prop} (h:H a=some (.tup xs)) (l:xs.length=n) (q:t xs σ H R):gTup K n t (.ref a) σ H R:=⟨a,xs,rfl,SqT.of h,l,q⟩
theorem r_max {i j:Int} (q:Q (.int (max i j)) H):rMax2 [.int i,.int j] H Q:=⟨i,j,rfl,q⟩
theorem r_min {i j:Int} (q:Q (.int (min i j)) H):rMin2 [.int i,.int j] H Q:=⟨i,j,rfl,q⟩
theorem r_abs {i:Int} (q:Q (.int (i.natAbs:Int)) H):rAbs [.int i] H Q:=⟨i,rfl,q⟩
theorem r_isI {x:V}{k:Kd} (h:HasK H x k) (q:Q (.bl (k == .int || k == .bl)) H):jc9 K [x,.ty "int"] H Q:=⟨x,_,_,.inl ⟨_,rfl,jdo k⟩,h.tyOf,q⟩
theorem r_isB {x:V}{k:Kd} (h:HasK H x k) (q:Q (.bl (k == .bl)) H):jc9 K [x,.ty "bool"] H Q:=⟨x,_,_,.inl ⟨_,rfl,jca k⟩,h.tyOf,q⟩
theorem jfe {x:V}{k:Kd} (h:HasK H x k) (q:Q (.bl (k == .str)) H):jc9 K [x,.ty "str"] H Q:=⟨x,_,_,.inl ⟨_,rfl,jdp k⟩,h.tyOf,q⟩
theorem j86 {x:V}{k:Kd} (h:HasK H x k) (q:Q (.bl (k == .tup)) H):jc9 K [x,.ty "tuple"] H Q:=⟨x,_,_,.inl ⟨_,rfl,jai k⟩,h.tyOf,q⟩
theorem jff {x:V}{k:Kd} (h:HasK H x k) (q:Q (.bl (k == .lst)) H):jc9 K [x,.ty "list"] H Q:=⟨x,_,_,.inl ⟨_,rfl,jcb k⟩,h.tyOf,q⟩
theorem r_lenS {p:Addr}{xs:List V} (h:SqL K H p xs) (q:Q (.int xs.length) H):rLen K [.ref p] H Q:=⟨_,_,rfl,.inl ⟨xs,h,rfl⟩,q⟩
theorem r_lenL {p:Addr}{xs:List V} (h:H p=some (.lst xs)) (q:Q (.int xs.length) H):rLen K [.ref p] H Q:=⟨_,_,rfl,.inl ⟨xs,SqL.of h,rfl⟩,q⟩
theorem r_lenT {p:Addr}{xs:List V} (h:H p=some (.tup xs)) (q:Q (.int xs.length) H):rLen K [.ref p] H Q:=⟨_,_,rfl,.inr ⟨xs,SqT.of h,rfl⟩,q⟩
theorem r_ixS {p:Addr}{xs:List V}{i:Int}{v:V} (h:SqL K H p xs) (e:atI xs i=some v) (q:Q v H):rIx K (.ref p) (.int i) H Q:=.inl ⟨p,xs,i,v,rfl,rfl,h,e,q⟩
theorem j25 {p:Addr}{xs:List V}{i:Int}{v:V} (h:H p=some (.lst xs)) (e:atI xs i=some v) (q:Q v H):rIx K (.ref p) (.int i) H Q:=.inl ⟨p,xs,i,v,rfl,rfl,SqL.of h,e,q⟩
theorem j1d {p:Addr}{xs:List V}{i:Int}{v:V} (h:H p=some (.tup xs)) (e:atI xs i=some v) (q:Q v H):rIx K (.ref p) (.int i) H Q:=.inr (.inl ⟨p,xs,i,v,rfl,rfl,SqT.of h,e,q⟩)
theorem j32 {α:Type}{xs:List α}{i:Int}{v:α} (h0:0≤i) (h:xs[i.toNat]?=some v):atI xs i=some v:=by
 have:=jbj h
 rwa [Int.toNat_of_nonneg h0] at this
theorem j3j {p:Addr}{xs:List V} (h:H p=some (.tup xs)) (q:∀ l H',H l=none→H' l=some (.lst xs)→Ext H H'→Q (.ref l) H'):jg0 K [.ref p] H Q:=⟨p,xs,rfl,.inr (SqT.of h),fun l n=>q l _ n j0k (j1c n)⟩
theorem j9a {p:Addr}{xs:List V} (h:H p=some (.lst xs)) (q:∀ l H',H l=none→H' l=some (.lst xs)→Ext H H'→Q (.ref l) H'):jg0 K [.ref p] H Q:=⟨p,xs,rfl,.inl (SqL.of h),fun l n=>q l _ n j0k (j1c n)⟩
theorem j17 {p:Addr}{xs:List V} (h:H p=some (.lst xs)) (q:∀ l H',H l=none→H' l=some (.tup xs)→Ext H H'→Q (.ref l) H'):jdq K [.ref p] H Q:=⟨p,xs,rfl,.inl ⟨SqL.of h,fun l n=>q l _ n j0k (j1c n)⟩⟩
theorem r_sum {p:Addr}{ns:List Int} (h:H p=some (.lst (ns.map V.int))) (q:Q (.int ns.sum) H):rSum K [.ref p] H Q:=⟨p,ns,rfl,SqL.of h,q⟩
theorem r_inL {p:Addr}{x:V}{xs:List V} (h:H p=some (.lst xs)) (fx:j69 x=true) (fl:xs.all j69=true) (q:Q (.bl (inV x xs)) H):rInU K false x (.ref p) H Q:=⟨p,xs,rfl,.inl (SqL.of h),fx,fl,q⟩
end
theorem iteD {c A B:Prop} [Decidable c] (h1:c→A) (h2:¬ c→B):if decide c=true then A else B:=by
 by_cases h:c
 ·rw[decide_eq_true h];exact iteT (h1 h)
 ·rw[decide_eq_false h];exact iteF (h2 h)
theorem iteN {c A B:Prop} [Decidable c] (h1:¬ c→A) (h2:c→B):if (!decide c)=true then A else B:=by
 by_cases h:c
 ·rw[decide_eq_true h];exact iteF (h2 h)
 ·rw[decide_eq_false h];exact iteT (h1 h)
theorem mulM {c n:Int} (hb:ib c≤1048577) (n0:0≤n) (n1:n < 2147483629):CMulB (c+n) 948273388530662767682822077:=by
 refine .inr (.inr ?_)
 have h1:ib n≤31:=intBits_le (by omega)
 have h2:ib (c+n)≤1048578:=by
  exact Nat.le_trans (PySem.intBits_add_le hb h1) (by decide)
 have h3:ib 948273388530662767682822077≤100:=intBits_le (by decide)
 unfold IntMulOk
 have h:Builtin.Int.intTooBig (Builtin.Int.intBits (c+n)+Builtin.Int.intBits 948273388530662767682822077)=false:=by
  unfold Builtin.Int.intTooBig bitsLine
  have h4:Builtin.Int.intBits (c+n)≤1048578:=h2
  have h5:Builtin.Int.intBits 948273388530662767682822077≤100:=h3
  exact decide_eq_false (by omega)
 rw[h]
 simp
abbrev NoX:Value→Shared→Prop:=fun _ _=>False
def j87:List TT→TT
 | []=>fun _ H Q=>Q true H
 | t :: r=>fun σ H Q=>t σ H fun b H1=>if b=true then j87 r σ H1 Q else Q false H1
def PTs (X:Cx):List Expr→List TT→Prop
 | [],[]=>True
 | e :: es,t :: ts=>PT X e t∧PTs X es ts
 | _,_=>False
def j2t (env:Env) (ifs:List Expr) (b:Bool):Sem Bool:=forIn ifs b fun c r=>if r=true then do let ok ← isTrue c env (eval c env);pure (ForInStep.yield ok) else pure (ForInStep.yield r)
theorem j7k {M:Model}{A:Around}{E:Value→Shared→Prop}{s:Shared}{env:Env}{Q:Bool→Shared→Prop} (h:Q false s):∀ ifs:List Expr,wpAny M A (j2t env ifs false) Q E s
 | []=>wpAny_pure h
 | c :: r=>by
  unfold j2t
  rw[List.forIn_cons]
  simp only[Bool.false_eq_true,if_false]
  exact wpAny_bind (wpAny_pure (j7k h r))
theorem j9b {X:Cx}{pins:List (Addr × Obj)}{σ:St}{Q:Bool→Hp→Prop}:∀ (ifs:List Expr) (ts:List TT) (s:Shared) (H:Hp),PTs X ifs ts→Inv X pins σ H s→j87 ts σ H Q→wpAny (model X.prog X.w) X.A (j2t X.env ifs true) (TP X pins σ Q) X.xe s
 | [],[],s,H,_,I,h=>wpAny_pure ⟨H,I,h⟩
 | [],_ :: _,_,_,p,_,_=>p.elim
 | _ :: _,[],_,_,p,_,_=>p.elim
 | c :: r,t :: ts,s,H,p,I,h=>by
  unfold j2t
  rw[List.forIn_cons]
  simp only[if_true]
  refine wpAny_bind (wpAny_bind (thn (p.1 pins s σ H _ I h) fun b s1 ⟨H1,I1,q1⟩=>wpAny_pure ?_))
  cases b with
  | true=>exact j9b r ts s1 H1 p.2 I1 (by simpa using q1)
  | false=>exact j7k ⟨H1,I1,by simpa using q1⟩ r
section
variable {prog:Program}{w:World}{A:Around}{R:Result→Shared→Prop}
theorem jak {elt tg iter:Expr}{ifs:List Expr}{scope:Scope}{pos:Pos}{it acc:Value}{env:Env} (J:Nat→Shared→Prop)
  (turn:∀ n s,J n s→wpAny (model prog w) A (pyNext it) (fun r s1=>match r with
   | none=>R (.ok .next) s1
   | some v=>wpAny (model prog w) A (letOwnedTupleGo tg it v) (fun _ s2=>wpAny (model prog w) A (assign tg env v) (fun _ s3=>wpAny (model prog w) A (j2t env ifs true) (fun ok s4 =>
     if ok=true then wpAny (model prog w) A (eval elt env) (fun x s5=>wpAny (model prog w) A (call (.builtin "list.append") [acc,x]) (fun _ s6=>∃ m,m < n∧J m s6) NoX s5) NoX s4
     else ∃ m,m < n∧J m s4) NoX s3) NoX s2) NoX s1) NoX s) (n:Nat) {s:Shared} (h:J n s) :
  codeAny (model prog w) A (.compLoop (.ListComp elt [⟨tg,iter,ifs,0⟩] scope pos) 0 it acc env) R s:=by
 refine codeAny_loop rfl J (fun n s hJ=>?_) n h
 show wpAny _ A ((compTurn (.ListComp elt [⟨tg,iter,ifs,0⟩] scope pos) 0 it acc env).onRaise _) _ _ s
 refine wpAny_noted ?_
 have nx:∀ {E:Value→Shared→Prop} (e:Value) (s:Shared),NoX e s→E e s:=fun _ _ f=>f.elim
 rw[compTurn_list]
 refine wpAny_bind (wpAny_standAt (wpAny_bind (wpAny_mono (turn n s hJ) (fun r s1 q1=>?_) nx)))
 cases r with
 | none=>exact wpAny_pure q1
 | some v =>
  refine wpAny_bind (wpAny_mono q1 (fun _ s2 q2=>?_) nx)
  refine wpAny_bind (wpAny_mono q2 (fun _ s3 q3=>?_) nx)
  refine wpAny_bind (wpAny_mono (show wpAny _ _ (j2t env ifs true) _ _ _ from q3) (fun ok s4 q4=>?_) nx)
  cases ok with
  | false=>exact wpAny_pure ⟨rfl,q4⟩
  | true =>
   refine wpAny_bind (wpAny_bind (wpAny_mono q4 (fun x s5 q5=>?_) nx))
   exact wpAny_bind (wpAny_mono q5 (fun _ s6 q6=>wpAny_pure (wpAny_pure ⟨rfl,q6⟩)) nx)
end
def j36 (cells:List (Str × Addr)):List (Str × NameKind)→List (Str × Addr)→Option (List (Str × Addr))
 | [],cs=>some cs
 | (n,k) :: r,cs=>if (k == .free)=true then (match cells.lookup n with | some a=>j36 cells r ((n,a) :: cs) | none=>none) else j36 cells r cs
theorem j6j {env:Env}:∀ (names:List (Str × NameKind)) (cs cl:List (Str × Addr)),j36 env.cells names cs=some cl →
  (forIn names cs fun x r=>match x with | (name,kind)=>if (kind == .free)=true then do let a ← cellOf env name;pure (ForInStep.yield ((name,a) :: r)) else pure (ForInStep.yield r):Sem (List (Str × Addr)))=pure cl
 | [],cs,cl,h=>by
  cases h
  rfl
 | (n,k) :: r,cs,cl,h=>by
  rw[List.forIn_cons]
  unfold j36 at h
  by_cases hk:(k == NameKind.free)=true
  ·rw[if_pos hk] at h
   dsimp only
   rw[if_pos hk]
   unfold cellOf
   cases e:env.cells.lookup n with
   | none=>rw[e] at h;cases h
   | some a =>
    rw[e] at h
    exact j6j r _ cl h
  ·rw[if_neg hk] at h
   dsimp only
   rw[if_neg hk]
   exact j6j r cs cl h
theorem j33 {scope:Scope}{env:Env}{cl:List (Str × Addr)} (h:j36 env.cells scope.names []=some cl):closureFor scope env=pure cl:=by
 have e:closureFor scope env=((forIn scope.names ([]:List (Str × Addr)) fun x r=>match x with | (name,kind)=>if (kind == .free)=true then do let a ← cellOf env name;pure (ForInStep.yield ((name,a) :: r)) else pure (ForInStep.yield r):Sem (List (Str × Addr))) >>= fun cs=>pure cs):=by
  first | rfl | (unfold closureFor;rfl)
 rw[e,j6j _ _ _ h]
 rfl
theorem j53 {cells:List (Str × Addr)}:∀ (names:List (Str × NameKind)) (cs cl:List (Str × Addr)),j36 cells names cs=some cl→(∀ x c,cs.lookup x=some c→cells.lookup x=some c)→∀ x c,cl.lookup x=some c→cells.lookup x=some c
 | [],cs,cl,h,p=>by cases h;exact p
 | (n,k) :: r,cs,cl,h,p=>by
  unfold j36 at h
  split at h
  ·split at h
   ·rename_i a e
    refine j53 r _ cl h fun x c q=>?_
    rw[List.lookup_cons] at q
    by_cases hx:(x == n)=true
    ·rw[hx] at q
     have:x=n:=by simpa using hx
     subst this
     cases q
     exact e
    ·have hx':(x == n)=false:=by simpa using hx
     rw[hx'] at q
     exact p x c q
   ·cases h
  ·exact j53 r cs cl h p
theorem j54 {cells:List (Str × Addr)}:∀ (names:List (Str × NameKind)) (cs cl:List (Str × Addr)),j36 cells names cs=some cl→∀ x,((∃ c,cs.lookup x=some c)∨(x,NameKind.free)∈names)→∃ c,cl.lookup x=some c
 | [],cs,cl,h,x,p=>by
  cases h
  rcases p with p | p
  ·exact p
  ·simp at p
 | (n,k) :: r,cs,cl,h,x,p=>by
  unfold j36 at h
  split at h
  ·split at h
   ·rename_i a e
    refine j54 r _ cl h x ?_
    by_cases hx:x=n
    ·exact .inl ⟨a,by rw[List.lookup_cons,hx];simp⟩
    ·have hx':(x == n)=false:=by simpa using hx
     rcases p with⟨c,p⟩ | p
     ·exact .inl ⟨c,by rw[List.lookup_cons,hx'];exact p⟩
     ·rcases List.mem_cons.mp p with q | q
      ·cases q;exact absurd rfl hx
      ·exact .inr q
   ·cases h
  ·rename_i hk
   refine j54 r _ cl h x ?_
   rcases p with p | p
   ·exact .inl p
   ·rcases List.mem_cons.mp p with q | q
    ·cases q;exact absurd rfl hk
    ·exact .inr q
theorem j4v {scope:Scope}{env:Env} (hc:∀ y∈scope.names,y.2≠.cell) {x:Str} (h:(relabel scope env).names.lookup x=some .cell∨(relabel scope env).names.lookup x=some .free):(x,NameKind.free)∈scope.names:=by
 have key:∀ k,(k=.cell∨k=.free)→(relabel scope env).names.lookup x=some k→(x,NameKind.free)∈scope.names:=fun k hk e=>by
  have m:=PySem.mem_of_lookup e
  obtain⟨⟨n,k'⟩,hm,e2⟩:=List.mem_map.mp m
  dsimp only at e2
  split at e2
  ·rename_i q
   cases e2
   have:k'=.free:=by
    have:=(Bool.and_eq_true_iff.mp (Bool.and_eq_true_iff.mp q).1).1
    simpa using this
   subst this
   exact hm
  ·cases e2
   rcases hk with rfl | rfl
   ·exact absurd rfl (hc _ hm)
   ·exact hm
 exact h.elim (key _ (.inl rfl)) (key _ (.inr rfl))
def j1v (X:Cx) (pins:List (Addr × Obj)) (N:List Str) (scope:Scope) (cl:List (Str × Addr)) (fp:List Addr) (s:Shared) (H:Hp):Cx where
 prog:=X.prog
 w:=X.w
 K:=X.K
 mg:=X.mg
 base:=X.base
 A:=X.A
 N:=N
 s₀:=s
 H₀:=H
 env:=compEnvC scope cl s.heap.objs.size X.env
 outer:=X.stack
 stack:=X.stack
 ex:=fp
 fn:=fun _=>false
 calm:=X.calm
 pn:=X.pn++pins
 xe:=NoX
def Frees (X:Cx) (sc:Scope):List Str→List Nat→Prop
 | [],[]=>True
 | y :: ys,j :: js=>(X.N[j]?=some y∧(X.env.kindOf y=some .cell∨X.env.kindOf y=some .free)∧(sc.names.lookup y=some .cell∨sc.names.lookup y=some .free))∧Frees X sc ys js
 | _,_=>False
theorem Frees.get {X:Cx}{sc:Scope}:∀ {ys:List Str}{js:List Nat}{i:Nat}{y:Str},Frees X sc ys js→ys[i]?=some y→∃ j,js[i]?=some j∧X.N[j]?=some y∧(X.env.kindOf y=some .cell∨X.env.kindOf y=some .free)∧(sc.names.lookup y=some .cell∨sc.names.lookup y=some .free)
 | [],_,_,_,_,e=>by simp at e
 | _ :: _,[],_,_,h,_=>h.elim
 | y :: ys,j :: js,0,z,h,e=>by
  simp at e
  subst e
  exact⟨j,rfl,h.1⟩
 | y :: ys,j :: js,i+1,z,h,e=>Frees.get (ys:=ys) (js:=js) (i:=i) h.2 (by simpa using e)
theorem Frees.len {X:Cx}{sc:Scope}:∀ {ys:List Str}{js:List Nat},Frees X sc ys js→ys.length=js.length
 | [],[],_=>rfl
 | [],_ :: _,h=>h.elim
 | _ :: _,[],h=>h.elim
 | _ :: ys,_ :: js,h=>by rw[List.length_cons,List.length_cons,Frees.len h.2]
def jce (σ:St) (j:Nat):Option V:=match σ[j]? with | some o=>o | none=>none
def cSt (own:List Str) (js:List Nat) (σ:St):St:=own.map (fun _=>none)++js.map (jce σ)
section
variable {X:Cx}{pins:List (Addr × Obj)}{σ:St}{H:Hp}{s:Shared}
theorem j9c {own fr:List Str}{js:List Nat}{scope:Scope}{cl:List (Str × Addr)}{fp:List Addr}{h':Heap}{tk:Nat} (I:Inv X pins σ H s) (hkind:scope.kind=.function) (hc:∀ y∈scope.names,y.2≠.cell)
  (hcl:j36 X.env.cells scope.names []=some cl) (hF:Frees X (relabel scope X.env) fr js) (hfp:∀ b∈fp,FpOk X pins H b) (hlt:∀ b∈fp,b < s.heap.objs.size)
  (hn:h'.Ns s.heap.objs.size (fun _=>none)) (hk:∀ b o,s.heap.get? b=some o→h'.get? b=some o) :
  Inv (j1v X pins (own++fr) scope cl fp s H) [] (cSt own js σ) H { s with heap:=h',toks:=tk }:=by
 have sub:=j53 _ _ _ hcl (fun _ _ q=>by simp at q)
 have clt:∀ x c,X.env.cells.lookup x=some c→c < s.heap.objs.size:=fun x c e=>by obtain⟨v,q⟩:=I.cell x c e;exact q.lt
 refine⟨⟨I.ok.mod,hkind,I.ok.glob,I.ok.blt,Nat.le_refl _,fun x y c e1 e2=>I.ok.inj x y c (sub _ _ e1) (sub _ _ e2),fun x hx=>?_,(fun x c q=>Bool.noConfusion (show false=true from q)),I.ok.hd,I.ok.frames,.inl rfl,fun b hb=>⟨Nat.ne_of_lt (hlt b hb),fun x c e=>(hfp b hb).2.2.2.2.1 x c (sub x c e)⟩,
  I.bs,Nat.le_trans I.ok.bsz I.sz,fun b o e hb=>?_,fun b hb hq=>?_,I.stack,I.stkFree⟩,rfl,I.bare,Un.kept hk,⟨_,hn,fun i x v e1 e2 e3=>?_⟩,fun x c e=>?_,I.hok.fresh (Nat.le_refl _),fun x c e=>I.freeC x c (sub x c e),fun p hp=>?_,I.hok.kept hk,?_⟩
 ·exact j54 _ _ _ hcl x (.inr (j4v hc hx))
 ·rcases (hfp b hb).2.2.2.1 with q | q
  ·exact I.ok.noex b o e q
  ·exact absurd (Heap.lt_size (I.ok.bs b o e).1) (Nat.not_lt.mpr q)
 ·have:=I.stkSub b hq
  rcases List.mem_cons.mp this with z | z
  ·exact (hfp b hb).2.1 z
  ·exact (hfp b hb).2.2.1 z
 ·have hi:own.length≤i:=by
   refine Nat.le_of_not_lt fun q=>?_
   unfold cSt at e2
   rw[List.getElem?_append_left (by simpa using q),List.getElem?_map] at e2
   cases z:own[i]? with
   | none=>rw[z] at e2;cases e2
   | some y=>rw[z] at e2;cases e2
  have e1':fr[i-own.length]?=some x:=by
   have:(own++fr)[i]?=some x:=e1
   rwa [List.getElem?_append_right hi] at this
  obtain⟨j,hj,nj,kj,lj⟩:=hF.get e1'
  have e2':jce σ j=some v:=by
   unfold cSt at e2
   rw[List.getElem?_append_right (by simpa using hi),List.length_map,List.getElem?_map,hj] at e2
   exact Option.some.inj e2
  have e4:σ[j]?=some (some v):=by
   unfold jce at e2'
   split at e2'
   ·rename_i o q;rw[q,e2']
   ·cases e2'
  obtain⟨m,hm,hl⟩:=I.loc
  obtain⟨u,ru,lk⟩:=hl j x v nj e4 (kj.elim (fun q=>.inr (.inl q)) fun q=>.inr (.inr q))
  refine⟨u,ru,.inr ⟨lj,?_⟩⟩
  rcases lk with⟨q,_⟩ | ⟨_,c,ec,ic⟩
  ·rcases kj with k | k <;> (rw[q] at k;cases k)
  ·obtain⟨c',ec'⟩:=j54 _ _ _ hcl x (.inr (j4v hc lj))
   have:=sub _ _ ec'
   rw[ec] at this
   cases this
   exact⟨c,ec',ic.keeps hk⟩
 ·obtain⟨v,q⟩:=I.cell x c (sub x c e)
  exact⟨v,q.keeps hk⟩
 ·have hp':p∈X.pn++pins:=by
   rcases List.mem_append.mp hp with q | q
   ·exact q
   ·simp at q
  obtain⟨q1,q2,q3,q4,q5⟩:=I.pin p hp'
  refine⟨hk _ _ q1,q2,Nat.ne_of_lt (Heap.lt_size q1),fun z=>?_,q5⟩
  rcases List.mem_cons.mp (I.stkSub _ z) with y | y
  ·exact q3 y
  ·exact q4 y
 ·show (cSt own js σ).length=(own++fr).length
  unfold cSt
  rw[List.length_append,List.length_append,List.length_map,List.length_map,hF.len]
theorem jal {N:List Str}{scope:Scope}{cl:List (Str × Addr)}{fp:List Addr}{σ':St}{H':Hp}{s':Shared}{ps:List (Addr × Obj)} (I:Inv X pins σ H s) (hfp:∀ b∈fp,FpOk X pins H b)
  (J:Inv (j1v X pins N scope cl fp s H) ps σ' H' s'):Inv X pins σ H' s':=by
 refine I.call' (ch:=fp) J.os J.base J.hok J.bare fun b hb=>?_
 obtain⟨_,f1,_,f3,f4,f5⟩:=hfp b hb
 exact⟨f3,f1,f4,f5⟩
end
def accO (a:Addr) (ys:List V):HO:=.ext fun h=>ys.length≤sizeLine∧∃ (its:List Value) (n:Nat),Vals ys its∧h.get? a=some { cls:=.type "list",data:=.seq its.toArray n }
theorem je2 {P:Program}{w:World}{H:Hp}{h:Heap}{a:Addr}{ys:List V} (o:ObjOk P w H h a (.lst ys)):ObjOk P w H h a (accO a ys):=by
 obtain⟨z,its,n,r,e⟩:=o
 exact⟨⟨z,its,n,r,e⟩,⟨_,e⟩,fun h1 h2 ⟨z,its,n,r,e⟩ k=>⟨z,its,n,r,k _ e⟩⟩
theorem je3 {P:Program}{w:World}{H:Hp}{h:Heap}{a:Addr}{ys:List V} (o:ObjOk P w H h a (accO a ys)):ObjOk P w H h a (.lst ys):=by
 obtain⟨⟨z,its,n,r,e⟩,_⟩:=o
 exact⟨z,its,n,r,e⟩
def je4:HO→Bool
 | .lst _=>true | .ext _=>true | _=>false
theorem Inv.retrack {X:Cx}{pins:List (Addr × Obj)}{σ:St}{H:Hp}{s:Shared}{a:Addr}{o o':HO} (I:Inv X pins σ H s) (h:H a=some o) (hp:je4 o=true) (new:∀ H',ObjOk X.prog X.w H' s.heap a o'):Inv X pins σ (upd H a o') s:=by
 have ne:∀ {b:Addr}{u:HO},H b=some u→je4 u=false→b≠a:=fun hb hu z=>by subst z;rw[h] at hb;cases hb;rw[hp] at hu;cases hu
 have I':=I.un (h':=s.heap) (t':=s.toks) (H':=upd H a o') ⟨fun _ _ e _ _ _=>e,fun b u e _ _ _=>⟨u.slots,e⟩,fun b u _ n _=>by rw[j0o (fun z=>by subst z;rw[h] at n;cases n)];exact n,fun b u e _=>⟨u,e⟩,
  fun b xs e=>by rw[j0o (ne e rfl)];exact e,fun b ob u e=>by rw[j0o (ne e rfl)];exact e,fun b ps e=>⟨#[],by rw[j0o (ne e rfl),e];simp⟩⟩ (fun b u e=>by
   by_cases hb:b=a
   ·subst hb;rw[j0k] at e;cases e;exact new _
   ·rw[j0o hb] at e
    exact (I.hok b u e).stay (fun _ _ _ q=>q) (fun c q=>by rw[j0o (ne q rfl)];exact q) fun c xs q=>by rw[j0o (ne q rfl)];exact q)
 exact I'
theorem je5 {H:Hp}{a:Addr}{o o':HO} (h:H a=some o) (hd:jdm o=false):Kp H (upd H a o'):=fun b u e d=>by
 rw[j0o (fun z=>by subst z;rw[h] at e;cases e;rw[hd] at d;cases d)];exact e
def j6k (J:It) (g:TG) (ts:List TT) (te:TE) (acc:Addr) (σ0:St) (H0:Hp) (Q:Hp→Prop):Prop :=
 ∃ W:Nat→Nat→St→List V→Hp→Prop,(∃ m,W 0 m σ0 [] (upd H0 acc (accO acc [])))∧∀ i m σ ys H,W i m σ ys H→H acc=some (accO acc ys) →
  (J.stop i H∧Q (upd H acc (.lst ys)))∨(J.go i H∧∀ x H',J.yld i H x H'→g x σ H' fun σ2 H2=>j87 ts σ2 H2 fun b H3 =>
   if b=true then te σ2 H3 fun y H4=>H4 acc=some (accO acc ys)∧ys.length < sizeLine∧∃ m',m' < m∧W (i+1) m' σ2 (ys++[y]) (upd H4 acc (accO acc (ys++[y])))
   else H3 acc=some (accO acc ys)∧∃ m',m' < m∧W (i+1) m' σ2 ys H3)
abbrev CA (α:Type):=List (Addr × Obj)→List Addr→Shared→Hp→α
def jgm (wi:TI) (own:List Str) (js:List Nat) (g:CA TG) (ts:CA (List TT)) (te:CA TE):TE:=fun σ H Q=>wi σ H fun J H1=>∀ acc,H1 acc=none→∀ pins fp s Hc,j6k J (g pins fp s Hc) (ts pins fp s Hc) (te pins fp s Hc) acc (cSt own js σ) H1 fun H'=>Q (.ref acc) H'
structure CompOk (X:Cx) (scope:Scope) (cl:List (Str × Addr)) (own fr:List Str) (js:List Nat):Prop where
 kind:scope.kind=.function
 nc:∀ y∈scope.names,y.2≠.cell
 nl:∀ y∈scope.names,y.2=.local→scope.names.lookup y.1=some .local
 clos:j36 X.env.cells scope.names []=some cl
 frees:Frees X (relabel scope X.env) fr js
section
variable {X:Cx}{pins:List (Addr × Obj)}{σ:St}{H:Hp}{s:Shared}
theorem j7l {elt tg iter:Expr}{ifs:List Expr}{scope:Scope}{pos:Pos}{cl:List (Str × Addr)}{own fr:List Str}{js:List Nat}{g:CA TG}{ts:CA (List TT)}{te:CA TE}{R:Hp→Addr→Prop}{RR:Value→Addr→Result→Shared→Prop}{it:Addr}{fp:List Addr}{tn:Nat→Heap→Prop}{J:It}{E:Value→Shared→Prop}
  (O:CompOk X scope cl own fr js) (hcalm:X.calm=true)
  (hb:∀ pins fp s Hc,PG (j1v X pins (own++fr) scope cl fp s Hc) tg (g pins fp s Hc)∧PTs (j1v X pins (own++fr) scope cl fp s Hc) ifs (ts pins fp s Hc)∧PE (j1v X pins (own++fr) scope cl fp s Hc) elt (te pins fp s Hc))
  (I:Inv X pins σ H s) (T:Turn X.prog X.w X.K tg J fp it tn) (t0:tn 0 s.heap) (hf:∀ b∈fp,FpOk X pins H b)
  (h:∀ acc,H acc=none→∀ pins fp s Hc,j6k J (g pins fp s Hc) (ts pins fp s Hc) (te pins fp s Hc) acc (cSt own js σ) H fun H'=>R H' acc)
  (fin:∀ acc C H' s' m,Inv X pins σ H' s'→R H' acc→s'.heap.Ns C m→FpOk X pins H' C→RR (.ref acc) C (.ok .next) s') :
  wpAny (model X.prog X.w) X.A (newList []) (fun acc s3=>wpAny (model X.prog X.w) X.A (newFunctionEnv scope X.env.globals cl [] X.env.qual none .none (some X.env)) (fun cenv s4 =>
   codeAny (model X.prog X.w) X.A (.compStart (.ListComp elt [⟨tg,iter,ifs,0⟩] scope pos) 0 (.ref it) acc { cenv with scope:=relabel scope X.env }) (RR acc cenv.locals) s4) E s3) E s:=by
 have n0:H s.heap.objs.size=none:=I.hok.fresh (Nat.le_refl _)
 have flt:∀ b∈fp,b < s.heap.objs.size:=fun b hb=>by obtain⟨o,e,_⟩:=T.obj 0 _ t0 b hb;exact Heap.lt_size e
 refine wpAny_newList ?_
 have I3:Inv X pins σ (upd H s.heap.objs.size (accO s.heap.objs.size [])) { s with heap:=s.heap.push { cls:=.type "list",data:=.seq ([]:List Value).toArray } } :=
  I.laid (t':=s.toks) (fun b o e=>Heap.get?_push_of_some _ e) (Nat.le_refl _) (je2 (show ObjOk X.prog X.w _ _ _ (.lst []) from⟨Nat.zero_le _,[],0,.nil,Heap.get?_push_size _ rfl⟩))
 have hf3:∀ b∈fp,FpOk X pins (upd H s.heap.objs.size (accO s.heap.objs.size [])) b:=fun b hb=>⟨by rw[j0o (Nat.ne_of_lt (flt b hb))];exact (hf b hb).1,(hf b hb).2⟩
 have t3:tn 0 (s.heap.push { cls:=.type "list",data:=.seq ([]:List Value).toArray }):=T.keep _ _ _ t0 fun b _ o e=>Heap.get?_push_of_some _ e
 specialize h s.heap.objs.size n0
 generalize hs3:({ s with heap:=s.heap.push { cls:=.type "list",data:=.seq ([]:List Value).toArray } }:Shared)=s3 at I3 ⊢
 have t3':tn 0 s3.heap:=by rw[← hs3];exact t3
 have lt3:∀ b∈fp,b < s3.heap.objs.size:=fun b hb=>by rw[← hs3];exact Nat.lt_of_lt_of_le (flt b hb) (by rw[Heap.size_push];exact Nat.le_succ _)
 generalize hH3:upd H s.heap.objs.size (accO s.heap.objs.size [])=H3 at I3 hf3
 generalize hacc:s.heap.objs.size=acc at *
 refine wpAny_newFunctionEnv O.nc (by intro x hx;simp at hx) (fun h1 hns hsb=>?_) O.kind
 have hk:∀ b o,s3.heap.get? b=some o→h1.get? b=some o:=fun b o e=>(hsb.2 b (Nat.ne_of_lt (Heap.lt_size e))).trans (Heap.get?_push_of_some _ e)
 have Ic:Inv (j1v X pins (own++fr) scope cl fp s3 H3) [] (cSt own js σ) H3 { s3 with heap:=h1,toks:=s3.toks+0 }:=j9c I3 O.kind O.nc O.clos O.frees hf3 lt3 hns hk
 obtain⟨W,⟨m0,w0⟩,turn⟩:=h pins fp s3 H3
 obtain⟨hg,ht,he⟩:=hb pins fp s3 H3
 have stat:∀ {H':Hp}{ps:List (Addr × Obj)},ps=[]→(∀ b∈fp,H' b=none)→∀ b∈fp,FpOk (j1v X pins (own++fr) scope cl fp s3 H3) ps H' b:=fun {H' ps} hps hn b hb=>by
  obtain⟨f0,f1,f2,f3,f4,f5⟩:=hf3 b hb
  refine⟨hn b hb,Nat.ne_of_lt (lt3 b hb),fun z=>?_,.inl hb,fun x c e=>f4 x c (j53 _ _ _ O.clos (fun _ _ q=>by simp at q) x c e),fun p hp=>?_⟩
  ·rcases List.mem_cons.mp (I3.stkSub b z) with q | q
   ·exact f1 q
   ·exact f2 q
  ·subst hps
   rcases List.mem_append.mp hp with q | q
   ·exact f5 p q
   ·simp at q
 have loop:∀ {sx:Shared},Inv (j1v X pins (own++fr) scope cl fp s3 H3) [] (cSt own js σ) H3 sx→tn 0 sx.heap →
   codeAny (model X.prog X.w) X.A (.compLoop (.ListComp elt [⟨tg,iter,ifs,0⟩] scope pos) 0 (.ref it) (.ref acc) (compEnvC scope cl s3.heap.objs.size X.env)) (RR (.ref acc) s3.heap.objs.size) sx:=fun {sx} Jx tx=>by
  refine jak (fun n s'=>∃ i σc ys H',Inv (j1v X pins (own++fr) scope cl fp s3 H3) [] σc H' s'∧tn i s'.heap∧(∀ b∈fp,H' b=none)∧H' acc=some (accO acc ys)∧W i n σc ys H') ?_ m0 ⟨0,_,[],H3,Jx,tx,fun b hb=>(hf3 b hb).1,by rw[← hH3];exact j0k,by rw[← hH3];exact w0⟩
  rintro n s4 ⟨i,σ4,ys,H4,I4,t4,fr4,a4,w4⟩
  rcases turn i n σ4 ys H4 w4 a4 with⟨stop,qn⟩ | ⟨go,step⟩
  ·refine thn (T.done (j1v X pins (own++fr) scope cl fp s3 H3) rfl rfl rfl hcalm i [] s4 σ4 H4 NoX I4 (stat rfl fr4) t4 stop) fun r s5 ⟨hr,I5⟩=>?_
   subst hr
   obtain⟨m,hm,_⟩:=id I5.loc
   have IX:=jal I3 hf3 I5
   have IL:=IX.retrack (o':=.lst ys) a4 rfl fun H'=>je3 (H:=H') (by obtain⟨p1,p2,p3⟩:=IX.hok acc _ a4;exact⟨p1,p2,p3⟩)
   refine fin acc s3.heap.objs.size _ s5 m IL qn hm (I3.fpOk (Nat.le_refl _) ?_)
   have c4:H4 s3.heap.objs.size=none:=I5.free
   rw[j0o (fun z=>by rw[z,a4] at c4;cases c4)];exact c4
  ·refine thn (T.item (j1v X pins (own++fr) scope cl fp s3 H3) rfl rfl rfl hcalm i [] s4 σ4 H4 NoX I4 (stat rfl fr4) t4 go) fun r s5 ⟨u,hr,q5⟩=>?_
   subst hr
   refine thn q5 fun _ s6 ⟨x,H6,I6,r6,y6,t6,fr6⟩=>?_
   have I6':=I6.pinned (stat rfl fr6) (T.obj _ _ t6)
   refine thn (hg _ s6 σ4 H6 x u _ I6' r6 (step x H6 y6)) fun _ s7 ⟨σ7,H7,I7,q7⟩=>?_
   refine thn (j9b ifs _ s7 H7 ht I7 q7) fun ok s8 ⟨H8,I8,q8⟩=>?_
   have again:∀ {σ9:St}{H9:Hp}{s9:Shared}{zs:List V}{m:Nat},Inv (j1v X pins (own++fr) scope cl fp s3 H3) ([]++j8u fp s6.heap) σ9 H9 s9→H9 acc=some (accO acc zs)→m < n→W (i+1) m σ9 zs H9 →
     ∃ m,m < n∧∃ i σc ys H',Inv (j1v X pins (own++fr) scope cl fp s3 H3) [] σc H' s9∧tn i s9.heap∧(∀ b∈fp,H' b=none)∧H' acc=some (accO acc ys)∧W i m σc ys H':=fun {σ9 H9 s9 zs m} I9 a9 hm w9=>by
    refine⟨m,hm,i+1,σ9,zs,H9,I9.unpinned,T.keep _ _ _ t6 fun b hb o e=>(I9.pin (b,o) (List.mem_append_right _ (List.mem_append_right _ (j2f hb e)))).1,fun b hb=>?_,a9,w9⟩
    obtain⟨o,e,d⟩:=T.obj _ _ t6 b hb
    exact (I9.pin (b,o) (List.mem_append_right _ (List.mem_append_right _ (j2f hb e)))).2.1
   cases ok with
   | false =>
    obtain⟨a8,m',hm,w8⟩:=(show H8 acc=some (accO acc ys)∧∃ m',m' < n∧W (i+1) m' σ7 ys H8 by simpa using q8)
    exact again I8 a8 hm w8
   | true =>
    have q8':te pins fp s3 H3 σ7 H8 fun y H4=>H4 acc=some (accO acc ys)∧ys.length < sizeLine∧∃ m',m' < n∧W (i+1) m' σ7 (ys++[y]) (upd H4 acc (accO acc (ys++[y]))):=by simpa using q8
    refine thn (he _ s8 σ7 H8 _ I8 q8') fun v s9 ⟨y,H9,I9,r9,a9,hl,m',hm,w9⟩=>?_
    have IL:=I9.retrack (o':=.lst ys) a9 rfl fun H'=>je3 (H:=H') (by obtain⟨p1,p2,p3⟩:=I9.hok acc _ a9;exact⟨p1,p2,p3⟩)
    refine thn (j7i _ s9 σ7 _ (.ref acc) [y] (.ref acc) [v] (fun _ H'=>H'=upd H9 acc (.lst (ys++[y]))) IL rfl (.cons r9 .nil) ⟨acc,ys,y,rfl,rfl,j0k,hl,by rw[jbb]⟩) fun _ s10 ⟨_,H10,I10,_,e10⟩=>?_
    subst e10
    have I11:=I10.retrack (o':=accO acc (ys++[y])) j0k rfl fun H'=>je2 (H:=H') (by obtain⟨p1,p2,p3⟩:=I10.hok acc _ j0k;exact⟨p1,p2,p3⟩)
    rw[jbb] at I11
    exact again I11 j0k hm w9
 exact codeAny_compStart_list (loop Ic (T.keep _ _ _ t3' fun b _ o e=>hk b o e)) (T.self _ 0 _ _ _ (T.keep _ _ _ t3' fun b _ o e=>hk b o e) (loop Ic (T.keep _ _ _ t3' fun b _ o e=>hk b o e)))
theorem j1f {elt tg iter:Expr}{ifs:List Expr}{scope:Scope}{pos:Pos}{cl:List (Str × Addr)} (own fr:List Str) (js:List Nat) {wi:TI}{g:CA TG}{ts:CA (List TT)}{te:CA TE}
  (hcalm:X.calm=true) (O:CompOk X scope cl own fr js) (hi:PI X tg iter wi)
  (hb:∀ pins fp s Hc,PG (j1v X pins (own++fr) scope cl fp s Hc) tg (g pins fp s Hc)∧PTs (j1v X pins (own++fr) scope cl fp s Hc) ifs (ts pins fp s Hc)∧PE (j1v X pins (own++fr) scope cl fp s Hc) elt (te pins fp s Hc))
  (hs:∀ x,foldedSetIterable iter X.env x=pure x:=by intro _;rfl) :
  PE X (.ListComp elt [⟨tg,iter,ifs,0⟩] scope pos) (jgm wi own js g ts te):=by
 intro pins s σ H Q I h
 rw[eval_ListComp]
 refine wpAny_comprehension_free (use:=none) rfl hs (j33 O.clos) O.kind O.nl (thn (hi pins s σ H _ I h) fun xv s1 q1=>thn q1 fun itv s2 q2=>?_)
 obtain⟨it,fp,tn,J,H2,rfl,I2,T,t2,f2,q⟩:=q2
 refine j7l (RR:=fun acc C=>compPost (model X.prog X.w) X.A X.xe none (EP X pins σ Q) acc C) O hcalm hb I2 T t2 f2 q fun acc C H' s' m I' r' hm hC=>⟨m,hm,fun h' sb=>?_⟩
 obtain⟨f0,f1,f2,f3,f4,f5⟩:=hC
 exact⟨.ref acc,H',I'.turned (t':=s'.toks) (fun b o hb e=>(sb.2 b hb).trans e) f0 f1 f3 f4 f5,rfl,r'⟩
theorem j2i {i:Nat}{x:Str}{elt tg iter:Expr}{ifs:List Expr}{scope:Scope}{pos pos' spos:Pos}{cl:List (Str × Addr)} (own fr:List Str) (js:List Nat) {wi:TI}{g:CA TG}{ts:CA (List TT)}{te:CA TE}
  (hN:X.N.Nodup) (hix:X.N[i]?=some x) (hx:Loc X.env.scope x) (hcalm:X.calm=true) (O:CompOk X scope cl own fr js) (hi:PI X tg iter wi)
  (hb:∀ pins fp s Hc,PG (j1v X pins (own++fr) scope cl fp s Hc) tg (g pins fp s Hc)∧PTs (j1v X pins (own++fr) scope cl fp s Hc) ifs (ts pins fp s Hc)∧PE (j1v X pins (own++fr) scope cl fp s Hc) elt (te pins fp s Hc))
  (hsw:swapsWith (.ListComp elt [⟨tg,iter,ifs,0⟩] scope pos) (some (.Name x pos')) spos.line X.env=pure true:=by rfl)
  (hs:∀ x,foldedSetIterable iter X.env x=pure x:=by intro _;rfl) (hf:X.fn x=true∨X.env.scope.names.lookup x=some .local:=by first | exact .inl rfl | exact .inr rfl | assumption) :
  PS X (.Assign [.Name x pos'] (.ListComp elt [⟨tg,iter,ifs,0⟩] scope pos) spos) (tAsg (jgm wi own js g ts te) (j68 i)):=by
 intro pins s σ H D I h
 rw[exec_Assign_Name_used _ _ _ _ hsw]
 refine wpAny_bind (wpAny_standAt (wpAny_bind ?_))
 show wpAny _ _ (comprehension (.ListComp elt [⟨tg,iter,ifs,0⟩] scope pos) scope X.env (firstIterPos [⟨tg,iter,ifs,0⟩] pos) (newList []) false (eval iter X.env) (some (assign (.Name x pos') X.env)) >>= _) _ _ _
 refine wpAny_bind ?_
 have h':wi σ H fun J H1=>∀ acc,H1 acc=none→∀ pins fp s Hc,j6k J (g pins fp s Hc) (ts pins fp s Hc) (te pins fp s Hc) acc (cSt own js σ) H1 fun H'=>D.nx (σ.set i (some (.ref acc))) H':=h
 refine wpAny_comprehension_free (use:=some (assign (.Name x pos') X.env)) rfl hs (j33 O.clos) O.kind O.nl (thn (hi pins s σ H _ I h') fun xv s1 q1=>thn q1 fun itv s2 q2=>?_)
 obtain⟨it,fp,tn,J,H2,rfl,I2,T,t2,f2,q⟩:=q2
 refine j7l (RR:=fun acc C=>compPost (model X.prog X.w) X.A X.xe (some (assign (.Name x pos') X.env)) _ acc C) O hcalm hb I2 T t2 f2 q fun acc C H' s' m I' r' hm hC=>?_
 obtain⟨f0,f1,f2,f3,f4,f5⟩:=hC
 obtain⟨oc,es,ep,ho,hd,hr⟩:=id hm
 have IP:Inv X (pins++[(C,oc)]) σ H' s':=I'.pins_of fun p hp=>by
  rcases List.mem_append.mp hp with q | q
  ·exact I'.pin p (List.mem_append_right _ q)
  ·obtain rfl:p=(C,oc):=by simpa using q
   exact⟨ho,f0,f1,f2,fun v z=>by rw[hd] at z;cases z⟩
 refine wpAny_assign_Name (j6a IP hN hix hx (v:=.ref acc) (u:=.ref acc) rfl (fun s'' I''=>?_) hf)
 have hC'':=(I''.pin (C,oc) (List.mem_append_right _ (List.mem_append_right _ (by simp)))).1
 refine⟨m,⟨oc,es,ep,hC'',hd,hr⟩,fun h' sb=>?_⟩
 exact wpAny_pure (wpAny_pure ⟨_,H',(I''.unpinned).turned (t':=s''.toks) (fun b o hb e=>(sb.2 b hb).trans e) f0 f1 f3 f4 f5,r'⟩)
end
section
variable {K:PySem.W.Frag}{ts:List TT}{te:TE}{acc:Addr}{fr:St}{H1:Hp}{R:Hp→Prop}{xs ys:List V}
theorem r_comp {wi:TI}{own:List Str}{js:List Nat}{g:CA TG}{ts:CA (List TT)}{te:CA TE}{σ:St}{H:Hp}{Q:VK} (q:wi σ H fun J H1=>∀ acc,H1 acc=none→∀ pins fp s Hc,j6k J (g pins fp s Hc) (ts pins fp s Hc) (te pins fp s Hc) acc (cSt own js σ) H1 fun H'=>Q (.ref acc) H'):jgm wi own js g ts te σ H Q:=q
def j9d (ts:List TT) (te:TE) (Pv:List V→Hp→Prop) (ys:List V) (H:Hp) (σ2:St) (H2:Hp):Prop :=
 ∀ (Y:V→Hp→Prop) (N:Hp→Prop),(∀ y H',Ext H H'→Pv (ys++[y]) H'→Y y H')→(∀ H',Ext H H'→Pv ys H'→N H')→j87 ts σ2 H2 fun b H3=>if b=true then te σ2 H3 Y else N H3
theorem j3k {J:It}{g:TG}{σ0:St} (n:Nat) (hz:n≤1000000) (hn:H1 acc=none) (Sv:St→Prop) (Pv:Nat→List V→Hp→Prop) (s0:Sv σ0) (h0:Pv 0 [] H1) (kp:∀ i ys H H',Kp H H'→Pv i ys H→Pv i ys H')
  (hgo:∀ i H,i < n→Ext H1 H→J.go i H) (hst:∀ H,Ext H1 H→J.stop n H) (len:∀ i ys H,i≤n→Pv i ys H→ys.length≤i)
  (turn:∀ i σ ys H x H' (G:St→Hp→Prop),i < n→Ext H1 H→Sv σ→Pv i ys H→J.yld i H x H'→(∀ σ2 H2,Sv σ2→j9d ts te (Pv (i+1)) ys H σ2 H2→G σ2 H2)→g x σ H' G)
  (fin:∀ ys H,Ext H1 H→H acc=some (.lst ys)→Pv n ys H→R H):j6k J g ts te acc σ0 H1 R:=by
 have e0:Ext H1 (upd H1 acc (accO acc [])):=j1c hn
 refine⟨fun i m σ ys H=>m=n-i∧i≤n∧Ext H1 H∧Sv σ∧Pv i ys H,⟨n,by omega,Nat.zero_le _,e0,s0,kp _ _ _ _ e0.kp h0⟩,?_⟩
 rintro i m σ ys H ⟨rfl,hi,e,sv,pv⟩ ha
 by_cases hlt:i < n
 ·refine .inr ⟨hgo i H hlt e,fun x H' y=>turn i σ ys H x H' _ hlt e sv pv y fun σ2 H2 s2 q2=>?_⟩
  refine q2 _ _ (fun y H4 e4 p4=>?_) fun H3 e3 p3=>?_
  ·have a4:H4 acc=some (accO acc ys):=e4 _ _ ha
   have z:ys.length < sizeLine:=by have:=len _ _ _ hi pv;rw[sizeLine_eq];omega
   refine⟨a4,z,n-(i+1),by omega,rfl,hlt,fun b o hb=>?_,s2,kp _ _ _ _ (je5 a4 rfl) p4⟩
   rw[j0o (j05 hb hn)]
   exact e4 _ _ (e _ _ hb)
  ·exact⟨e3 _ _ ha,n-(i+1),by omega,rfl,hlt,e.tr e3,s2,p3⟩
 ·have hn':i=n:=by omega
  subst hn'
  refine .inl ⟨hst H e,fin ys _ (fun b o hb=>?_) j0k (kp _ _ _ _ (je5 ha rfl) pv)⟩
  rw[j0o (j05 hb hn)]
  exact e _ _ hb
theorem j7m {a:Addr}{u:Option V} (hx:SqL K H1 a xs) (hz:xs.length≤1000000) (hn:H1 acc=none) (Pv:Nat→List V→Hp→Prop) (h0:Pv 0 [] H1) (kp:∀ i ys H H',Kp H H'→Pv i ys H→Pv i ys H') (len:∀ i ys H,i≤xs.length→Pv i ys H→ys.length≤i)
  (turn:∀ i x ys H,xs[i]?=some x→Ext H1 H→Pv i ys H→j9d ts te (Pv (i+1)) ys H (some x :: fr) H)
  (fin:∀ ys H,Ext H1 H→H acc=some (.lst ys)→Pv xs.length ys H→R H):j6k (Itl K a) (j68 0) ts te acc (u :: fr) H1 R:=by
 refine j3k xs.length hz hn (fun σ=>∃ u,σ=u :: fr) Pv ⟨u,rfl⟩ h0 kp (fun i H hi e=>⟨xs,xs[i],e.seqL hx,List.getElem?_eq_getElem hi⟩) (fun H e=>⟨xs,e.seqL hx,Nat.le_refl _⟩) len ?_ fin
 rintro i σ ys H x H' G hi e ⟨u,rfl⟩ pv ⟨rfl,y⟩ hG
 have:=y xs (e.seqL hx)
 exact hG _ _ ⟨some x,rfl⟩ (turn i x ys _ this e pv)
theorem j29 {a:Addr}{u:Option V} (hx:SqT K H1 a xs) (hz:xs.length≤1000000) (hn:H1 acc=none) (Pv:Nat→List V→Hp→Prop) (h0:Pv 0 [] H1) (kp:∀ i ys H H',Kp H H'→Pv i ys H→Pv i ys H') (len:∀ i ys H,i≤xs.length→Pv i ys H→ys.length≤i)
  (turn:∀ i x ys H,xs[i]?=some x→Ext H1 H→Pv i ys H→j9d ts te (Pv (i+1)) ys H (some x :: fr) H)
  (fin:∀ ys H,Ext H1 H→H acc=some (.lst ys)→Pv xs.length ys H→R H):j6k (Itt K a) (j68 0) ts te acc (u :: fr) H1 R:=by
 refine j3k xs.length hz hn (fun σ=>∃ u,σ=u :: fr) Pv ⟨u,rfl⟩ h0 kp (fun i H hi e=>⟨xs,xs[i],e.seqT hx,List.getElem?_eq_getElem hi⟩) (fun H e=>⟨xs,e.seqT hx,Nat.le_refl _⟩) len ?_ fin
 rintro i σ ys H x H' G hi e ⟨u,rfl⟩ pv ⟨rfl,y⟩ hG
 have:=y xs (e.seqT hx)
 exact hG _ _ ⟨some x,rfl⟩ (turn i x ys _ this e pv)
theorem j2j {lo:Int}{n:Nat}{u:Option V} (hz:n≤1000000) (hn:H1 acc=none) (Pv:Nat→List V→Hp→Prop) (h0:Pv 0 [] H1) (kp:∀ i ys H H',Kp H H'→Pv i ys H→Pv i ys H') (len:∀ i ys H,i≤n→Pv i ys H→ys.length≤i)
  (turn:∀ i ys H,i < n→Ext H1 H→Pv i ys H→j9d ts te (Pv (i+1)) ys H (some (.int (lo+i)) :: fr) H)
  (fin:∀ ys H,Ext H1 H→H acc=some (.lst ys)→Pv n ys H→R H):j6k (Itr lo n) (j68 0) ts te acc (u :: fr) H1 R:=by
 refine j3k n hz hn (fun σ=>∃ u,σ=u :: fr) Pv ⟨u,rfl⟩ h0 kp (fun i H hi e=>hi) (fun H e=>Nat.le_refl _) len ?_ fin
 rintro i σ ys H x H' G hi e ⟨u,rfl⟩ pv ⟨rfl,rfl⟩ hG
 exact hG _ _ ⟨_,rfl⟩ (turn i ys _ hi e pv)
end
def ItA (b:Bool) (h:Heap) (it l:Addr) (k:Nat):Prop:=match b with | false=>h.IsListIter it l k | true=>h.IsTupleIter it l k
def SqA (b:Bool) (h:Heap) (l:Addr) (xs:Array Value):Prop:=match b with | false=>h.IsList l xs | true=>h.IsTuple l xs
theorem ItA.ex {b:Bool}{h:Heap}{it l:Addr}{k:Nat} (x:ItA b h it l k):∃ o,h.get? it=some o∧∀ v,o.data≠.cell v:=by
 cases b <;> (obtain⟨o,e,_,d⟩:=x;exact⟨o,e,fun v z=>by rw[d] at z;cases z⟩)
theorem ItA.at {b:Bool}{h h':Heap}{it l:Addr}{k:Nat} (x:ItA b h it l k) (f:∀ o,h.get? it=some o→h'.get? it=some o):ItA b h' it l k:=by
 cases b <;> (obtain⟨o,e,r⟩:=x;exact⟨o,f o e,r⟩)
theorem SqA.at {b:Bool}{h h':Heap}{l:Addr}{xs:Array Value} (x:SqA b h l xs) (f:∀ o,h.get? l=some o→h'.get? l=some o):SqA b h' l xs:=by
 cases b <;> (obtain⟨o,e,r⟩:=x;exact⟨o,f o e,r⟩)
theorem SqA.lt {b:Bool}{h:Heap}{l:Addr}{xs:Array Value} (x:SqA b h l xs):l < h.objs.size:=by
 cases b <;> (obtain⟨o,e,_⟩:=x;exact Heap.lt_size e)
theorem ItA.lt {b:Bool}{h:Heap}{it l:Addr}{k:Nat} (x:ItA b h it l k):it < h.objs.size:=by
 obtain⟨o,e,_⟩:=x.ex;exact Heap.lt_size e
section
variable {prog:Program}{w:World}{A:Around}{E:Value→Shared→Prop}{s:Shared}
theorem j9e {it l:Addr}{k:Nat}{xs:Array Value}{x:Value}{Q:Value→Shared→Prop} (i0:s.heap.IsTupleIter it l k) (l0:s.heap.IsTuple l xs) (hx:xs[k]?=some x)
  (q:∀ h',h'.IsTupleIter it l (k+1)→Heap.SameBut it s.heap h'→Q x { s with heap:=h' }):wpAny (model prog w) A (Builtin.SmallTypes.nextOf (.ref it)) Q E s:=by
 obtain⟨oi,ei,ci,di⟩:=id i0
 obtain⟨ol,el,_,nl,dl⟩:=l0
 unfold Builtin.SmallTypes.nextOf
 refine wpAny_bind (wpAny_callSpecial?_slot (name:=Str.ofString "__next__") i0.typeIs F.slot_tuple_iterator_next (wpAny_call_entry F.slot_tuple_iterator_next i0.typeIs F.entry_tuple_iterator_next ?_ (F.args_tuple_iterator_next_1 _)))
 show wpAny _ _ (field (.ref it) 0 >>= _) _ _ _;refine wpAny_bind (wpAny_field ei di (x:=.ref l) rfl ?_)
 show wpAny _ _ (if (Value.ref l == Value.none)=true then _ else _) _ _ _;rw[if_neg (show ¬ ((Value.ref l == Value.none)=true) from fun z=>Bool.false_ne_true z)]
 show wpAny _ _ (field (.ref it) 1 >>= _) _ _ _;refine wpAny_bind (wpAny_field ei di (x:=.int k 0) rfl ?_)
 show wpAny _ _ (seqItems? (.ref l) >>= _) _ _ _;refine wpAny_bind (wpAny_seqItems el dl ?_)
 simp only[Int.toNat_natCast,hx];refine wpAny_bind (wpAny_setField ei di (by simp) (wpAny_pure ⟨x,rfl,wpAny_pure (q _ ⟨_,Heap.get?_update_self _ ei (Obj.isFreed_of_fields (Obj.data_mapFields di _)),(Obj.cls_mapFields ..).trans ci,?_⟩ (Heap.SameBut.update ..))⟩))
 rw[Obj.data_mapFields di];simp[rawInt]
theorem jam {it l:Addr}{k:Nat}{xs:Array Value}{Q:Value→Shared→Prop} (hh:A.handled=none) (i0:s.heap.IsTupleIter it l k) (l0:s.heap.IsTuple l xs) (hx:xs[k]?=none)
  (q:∀ h' e,Heap.ExtBut it s.heap h'→(∃ o,h'.get? e=some o∧o.cls=.type "StopIteration")→E (.ref e) { s with heap:=h' }):wpAny (model prog w) A (Builtin.SmallTypes.nextOf (.ref it)) Q E s:=by
 obtain⟨oi,ei,ci,di⟩:=id i0
 obtain⟨ol,el,_,nl,dl⟩:=l0
 unfold Builtin.SmallTypes.nextOf
 refine wpAny_bind (wpAny_callSpecial?_slot (name:=Str.ofString "__next__") i0.typeIs F.slot_tuple_iterator_next (wpAny_call_entry F.slot_tuple_iterator_next i0.typeIs F.entry_tuple_iterator_next ?_ (F.args_tuple_iterator_next_1 _)))
 show wpAny _ _ (field (.ref it) 0 >>= _) _ _ _;refine wpAny_bind (wpAny_field ei di (x:=.ref l) rfl ?_)
 show wpAny _ _ (if (Value.ref l == Value.none)=true then _ else _) _ _ _;rw[if_neg (show ¬ ((Value.ref l == Value.none)=true) from fun z=>Bool.false_ne_true z)]
 show wpAny _ _ (field (.ref it) 1 >>= _) _ _ _;refine wpAny_bind (wpAny_field ei di (x:=.int k 0) rfl ?_)
 show wpAny _ _ (seqItems? (.ref l) >>= _) _ _ _;refine wpAny_bind (wpAny_seqItems el dl ?_)
 simp only[Int.toNat_natCast,hx];refine wpAny_bind (wpAny_rule (wpAny_bind (wpAny_setField ei di (by simp) ?_)))
 show wpAny _ _ (newExc (.type "StopIteration") [] >>= _) _ _ _;refine wpAny_bind ?_;simp only[newExc,newTuple]
 refine wpAny_bind (wpAny_newObj_type ?_ (by size_fits));refine wpAny_bind (m:=firstArgMember _ _) (wpAny_of_eq (a:=Value.none) (by first | rfl | (simp only[firstArgMember];rfl)) ?_)
 refine wpAny_newObj_type ?_ (by size_fits);simp only[raiseNew];refine wpAny_bind (wpAny_handled ?_)
 first | rw[show A.in1.handled=none from hh] | rw[hh]
 refine wpAny_bind (wpAny_pure (wpAny_throw ?_));exact q _ _ (((Heap.SameBut.update ..).extBut.push _).push _) ⟨_,Heap.get?_push_size _ rfl,rfl⟩
theorem j3l {b:Bool}{it l:Addr}{k:Nat}{xs:Array Value}{x:Value}{Q:Value→Shared→Prop} (i0:ItA b s.heap it l k) (l0:SqA b s.heap l xs) (hx:xs[k]?=some x)
  (q:∀ h',ItA b h' it l (k+1)→Heap.SameBut it s.heap h'→Q x { s with heap:=h' }):wpAny (model prog w) A (Builtin.SmallTypes.nextOf (.ref it)) Q E s:=by
 cases b
 ·exact wpAny_nextOf_list_item i0 l0 hx q
 ·exact j9e i0 l0 hx q
theorem j7n {b:Bool}{it l:Addr}{k:Nat}{xs:Array Value}{Q:Value→Shared→Prop} (hh:A.handled=none) (i0:ItA b s.heap it l k) (l0:SqA b s.heap l xs) (hx:xs[k]?=none)
  (q:∀ h' e,Heap.ExtBut it s.heap h'→(∃ o,h'.get? e=some o∧o.cls=.type "StopIteration")→E (.ref e) { s with heap:=h' }):wpAny (model prog w) A (Builtin.SmallTypes.nextOf (.ref it)) Q E s:=by
 cases b
 ·exact wpAny_nextOf_list_end hh i0 l0 hx q
 ·exact jam hh i0 l0 hx q
theorem jan {c d:Bool}{z TI TO i1 i2 l1 l2:Addr}{k:Nat}{xs ys:Array Value}{x y p q:Value}{Q:Option Value→Shared→Prop} (D:ZipApart z TI TO i1 i2 l1 l2)
  (hz:IsZip s.heap z TI TO .none) (hI:IsPair s.heap TI (.ref i1) (.ref i2)) (hO:IsPair s.heap TO p q) (a1:ItA c s.heap i1 l1 k) (a2:ItA d s.heap i2 l2 k) (b1:SqA c s.heap l1 xs) (b2:SqA d s.heap l2 ys) (hx:xs[k]?=some x) (hy:ys[k]?=some y)
  (hQ:∀ h',IsZip h' z TI TO (rawInt s.heap.objs.size)→IsPair h' TO x y→ItA c h' i1 l1 (k+1)→ItA d h' i2 l2 (k+1)→IsPair h' s.heap.objs.size x y →
   (∀ e o,e≠z→e≠TO→e≠i1→e≠i2→s.heap.get? e=some o→h'.get? e=some o)→Q (some (.ref s.heap.objs.size)) { s with heap:=h' }):wpAny (model prog w) A (pyNext (.ref z)) Q E s:=by
 have tz:s.TypeIs (.ref z) "zip":=⟨_,hz,rfl⟩
 unfold pyNext
 refine wpAny_bind (wpAny_attempt (wpAny_callSpecial?_slot (name:=Str.ofString "__next__") tz F.slot_zip_next (wpAny_call_entry F.slot_zip_next tz F.entry_zip_next ?_ (F.args_zip_next_1 _))))
 show wpAny _ _ (field (.ref z) 2 >>= _) _ _ _;refine wpAny_bind (wpAny_field hz rfl (x:=.bool false) rfl ?_)
 show wpAny _ _ (field (.ref z) 3 >>= _) _ _ _;refine wpAny_bind (wpAny_field hz rfl (x:=.ref TI) rfl (wpAny_bind (wpAny_seqItems hI rfl ?_)))
 show wpAny _ _ (Builtin.SmallTypes.ownedTupleIsFree (.ref z) >>= _) _ _ _;refine wpAny_bind ?_;unfold Builtin.SmallTypes.ownedTupleIsFree
 refine wpAny_bind (wpAny_field hz rfl (x:=.none) rfl (wpAny_pure ?_));simp only[if_true]
 refine wpAny_bind (wpAny_rule (wpAny_bind (wpAny_field hz rfl (x:=.ref TO) rfl (wpAny_bind (wpAny_setField_rec hz (by simp) fun g1 z1 s1=>?_)))))
 replace z1:IsZip g1 z TI TO .ellipsis:=z1
 refine wpAny_bind ?_;simp only[List.zipIdx_cons,List.zipIdx_nil,List.forIn_cons,List.forIn_nil]
 refine wpAny_bind (wpAny_bind (wpAny_onRaise ?_))
 show wpAny _ _ (Builtin.SmallTypes.nextOf (.ref i1) >>= _) _ _ _
 refine wpAny_bind (j3l (a1.at fun o e=>s1.extBut _ o D.i1z e) (b1.at fun o e=>s1.extBut _ o D.l1z e) hx fun g2 j1 s2=>wpAny_pure ?_)
 have o2:IsPair g2 TO p q:=s2.extBut _ _ D.TOi1 (s1.extBut _ _ D.TOz hO)
 refine wpAny_bind (wpAny_seqItems o2 rfl (wpAny_bind (wpAny_updateSeq_pair o2 fun g3 o3 s3=>wpAny_bind (wpAny_letGo (wpAny_pure ?_)))))
 replace o3:IsPair g3 TO x q:=o3
 refine wpAny_bind (wpAny_bind (wpAny_onRaise ?_))
 show wpAny _ _ (Builtin.SmallTypes.nextOf (.ref i2) >>= _) _ _ _
 refine wpAny_bind (j3l (a2.at fun o e=>s3.extBut _ o D.TOi2.symm (s2.extBut _ o D.i12.symm (s1.extBut _ o D.i2z e))) (b2.at fun o e=>s3.extBut _ o D.l2TO (s2.extBut _ o D.l2i1 (s1.extBut _ o D.l2z e))) hy fun g4 j2 s4=>wpAny_pure ?_)
 have o4:IsPair g4 TO x q:=s4.extBut _ _ D.TOi2 o3
 refine wpAny_bind (wpAny_seqItems o4 rfl (wpAny_bind (wpAny_updateSeq_pair o4 fun g5 o5 s5=>wpAny_bind (wpAny_letGo (wpAny_pure (wpAny_pure ?_))))))
 replace o5:IsPair g5 TO x y:=o5
 refine wpAny_bind (wpAny_seqItems o5 rfl (wpAny_bind (wpAny_newTuple ?_)))
 have n5:g5.objs.size=s.heap.objs.size:=by rw[s5.1,s4.1,s3.1,s2.1,s1.1]
 have z5:IsZip g5 z TI TO .ellipsis:=s5.extBut _ _ D.TOz.symm (s4.extBut _ _ D.i2z.symm (s3.extBut _ _ D.TOz.symm (s2.extBut _ _ D.i1z.symm z1)))
 have k5:∀ e o,e≠z→e≠TO→e≠i1→e≠i2→s.heap.get? e=some o→g5.get? e=some o:=fun e o q1 q2 q3 q4 h=>s5.extBut _ _ q2 (s4.extBut _ _ q4 (s3.extBut _ _ q2 (s2.extBut _ _ q3 (s1.extBut _ _ q1 h))))
 have j5:ItA c g5 i1 l1 (k+1):=j1.at fun o e=>s5.extBut _ o D.TOi1.symm (s4.extBut _ o D.i12 (s3.extBut _ o D.TOi1.symm e))
 have m5:ItA d g5 i2 l2 (k+1):=j2.at fun o e=>s5.extBut _ o D.TOi2.symm e
 have lz:z < g5.objs.size:=Heap.lt_size z5
 show wpAny _ _ (Builtin.SmallTypes.ownedTupleHandOut (.ref z) (.ref g5.objs.size) >>= _) _ _ _;refine wpAny_bind ?_;unfold Builtin.SmallTypes.ownedTupleHandOut
 have z6:IsZip (g5.push { cls:=.type "tuple",data:=.seq #[x,y] }) z TI TO .ellipsis:=Heap.get?_push_of_some _ z5
 refine wpAny_bind (wpAny_setField_rec z6 (by simp) fun g7 z7 s7=>?_)
 replace z7:IsZip g7 z TI TO (rawInt g5.objs.size):=z7
 refine wpAny_setField_rec z7 (by simp) fun g8 z8 s8=>?_
 replace z8:IsZip g8 z TI TO (rawInt g5.objs.size):=z8
 have k8:∀ e o,e≠z→g5.get? e=some o→g8.get? e=some o:=fun e o q1 h=>s8.extBut _ _ q1 (s7.extBut _ _ q1 (Heap.get?_push_of_some _ h))
 have t8:IsPair g8 g5.objs.size x y:=s8.extBut _ _ (Nat.ne_of_gt lz) (s7.extBut _ _ (Nat.ne_of_gt lz) (Heap.get?_push_size _ rfl))
 refine wpAny_pure ⟨_,rfl,wpAny_pure ?_⟩
 rw[n5] at z8 t8
 show Q (some (.ref g5.objs.size)) _
 rw[n5]
 exact hQ g8 z8 (k8 _ _ D.TOz o5) (j5.at fun o e=>k8 _ o D.i1z e) (m5.at fun o e=>k8 _ o D.i2z e) t8 fun e o q1 q2 q3 q4 h=>k8 e o q1 (k5 e o q1 q2 q3 q4 h)
theorem jcf {c d:Bool}{z TI TO i1 i2 l1 l2:Addr}{k:Nat}{xs ys:Array Value}{p q:Value}{Q:Option Value→Shared→Prop} (hh:A.handled=none) (D:ZipApart z TI TO i1 i2 l1 l2)
  (hz:IsZip s.heap z TI TO .none) (hI:IsPair s.heap TI (.ref i1) (.ref i2)) (hO:IsPair s.heap TO p q) (a1:ItA c s.heap i1 l1 k) (a2:ItA d s.heap i2 l2 k) (b1:SqA c s.heap l1 xs) (b2:SqA d s.heap l2 ys) (hend:xs[k]?=none∨ys[k]?=none)
  (hQ:∀ h',(∀ e o,e≠z→e≠TO→e≠i1→e≠i2→s.heap.get? e=some o→h'.get? e=some o)→Q none { s with heap:=h' }):wpAny (model prog w) A (pyNext (.ref z)) Q E s:=by
 have tz:s.TypeIs (.ref z) "zip":=⟨_,hz,rfl⟩
 have stopped:∀ {h':Heap}{e:Addr},(∃ o,h'.get? e=some o∧o.cls=.type "StopIteration")→(∀ e o,e≠z→e≠TO→e≠i1→e≠i2→s.heap.get? e=some o→h'.get? e=some o) →
   wpAny (model prog w) A (do if ← isInstance (.ref e) (.type "StopIteration") then pure (none:Option Value) else throw (.ref e)) Q E { s with heap:=h' }:=fun {h' e} ⟨o,ho,hc⟩ hk =>
  wpAny_bind (wpAny_isInstance (T:="StopIteration") (b:=true) ⟨o,ho,hc⟩ isSubtype_stop (wpAny_pure (hQ _ hk)))
 unfold pyNext
 refine wpAny_bind (wpAny_attempt (wpAny_callSpecial?_slot (name:=Str.ofString "__next__") tz F.slot_zip_next (wpAny_call_entry F.slot_zip_next tz F.entry_zip_next ?_ (F.args_zip_next_1 _))))
 show wpAny _ _ (field (.ref z) 2 >>= _) _ _ _;refine wpAny_bind (wpAny_field hz rfl (x:=.bool false) rfl ?_)
 show wpAny _ _ (field (.ref z) 3 >>= _) _ _ _;refine wpAny_bind (wpAny_field hz rfl (x:=.ref TI) rfl (wpAny_bind (wpAny_seqItems hI rfl ?_)))
 show wpAny _ _ (Builtin.SmallTypes.ownedTupleIsFree (.ref z) >>= _) _ _ _;refine wpAny_bind ?_;unfold Builtin.SmallTypes.ownedTupleIsFree
 refine wpAny_bind (wpAny_field hz rfl (x:=.none) rfl (wpAny_pure ?_));simp only[if_true]
 refine wpAny_bind (wpAny_rule (wpAny_bind (wpAny_field hz rfl (x:=.ref TO) rfl (wpAny_bind (wpAny_setField_rec hz (by simp) fun g1 z1 s1=>?_)))))
 replace z1:IsZip g1 z TI TO .ellipsis:=z1
 refine wpAny_bind ?_;simp only[List.zipIdx_cons,List.zipIdx_nil,List.forIn_cons,List.forIn_nil]
 refine wpAny_bind (wpAny_bind (wpAny_onRaise ?_))
 show wpAny _ _ (Builtin.SmallTypes.nextOf (.ref i1) >>= _) _ _ _
 cases hx:xs[k]? with
 | none =>
  refine wpAny_bind (j7n hh (a1.at fun o e=>s1.extBut _ o D.i1z e) (b1.at fun o e=>s1.extBut _ o D.l1z e) hx fun g2 e s2 ⟨oe,he,ce⟩=>?_)
  have z2:IsZip g2 z TI TO .ellipsis:=s2 _ _ D.i1z.symm z1
  have ez:e≠z:=fun y=>by subst y;rw[z2] at he;cases he;simp at ce
  exact wpAny_setField_rec z2 (by simp) fun g3 _ s3=>stopped ⟨oe,s3.extBut _ _ ez he,ce⟩ fun e o q1 _ q3 _ h=>s3.extBut _ _ q1 (s2 _ _ q3 (s1.extBut _ _ q1 h))
 | some x =>
  have hy:ys[k]?=none:=hend.resolve_left (by rw[hx];simp)
  refine wpAny_bind (j3l (a1.at fun o e=>s1.extBut _ o D.i1z e) (b1.at fun o e=>s1.extBut _ o D.l1z e) hx fun g2 j1 s2=>wpAny_pure ?_)
  have o2:IsPair g2 TO p q:=s2.extBut _ _ D.TOi1 (s1.extBut _ _ D.TOz hO)
  refine wpAny_bind (wpAny_seqItems o2 rfl (wpAny_bind (wpAny_updateSeq_pair o2 fun g3 o3 s3=>wpAny_bind (wpAny_letGo (wpAny_pure ?_)))))
  refine wpAny_bind (wpAny_bind (wpAny_onRaise ?_))
  show wpAny _ _ (Builtin.SmallTypes.nextOf (.ref i2) >>= _) _ _ _
  refine wpAny_bind (j7n hh (a2.at fun o e=>s3.extBut _ o D.TOi2.symm (s2.extBut _ o D.i12.symm (s1.extBut _ o D.i2z e))) (b2.at fun o e=>s3.extBut _ o D.l2TO (s2.extBut _ o D.l2i1 (s1.extBut _ o D.l2z e))) hy fun g4 e s4 ⟨oe,he,ce⟩=>?_)
  have z4:IsZip g4 z TI TO .ellipsis:=s4 _ _ D.i2z.symm (s3.extBut _ _ D.TOz.symm (s2.extBut _ _ D.i1z.symm z1))
  have ez:e≠z:=fun y=>by subst y;rw[z4] at he;cases he;simp at ce
  exact wpAny_setField_rec z4 (by simp) fun g5 _ s5=>stopped ⟨oe,s5.extBut _ _ ez he,ce⟩ fun e o q1 q2 q3 q4 h=>s5.extBut _ _ q1 (s4 _ _ q4 (s3.extBut _ _ q2 (s2.extBut _ _ q3 (s1.extBut _ _ q1 h))))
def itO (b:Bool) (l:Addr):Obj:={ cls:=.type (if b then "tuple_iterator" else "list_iterator"),data:=.fields #[.ref l,.int 0 0] }
theorem iterA {b:Bool}{l:Addr}{xs:Array Value}{Q:Value→Shared→Prop} (h:SqA b s.heap l xs) (q:Q (.ref s.heap.objs.size) { s with heap:=s.heap.push (itO b l) }):wpAny (model prog w) A (pyIter (.ref l)) Q E s:=by
 cases b
 ·exact wpAny_pyIter_list h q
 ·exact wpAny_pyIter_tuple h q
theorem je6 {b:Bool}{l it:Addr}{h:Heap} (e:h.get? it=some (itO b l)):ItA b h it l 0:=by
 cases b <;> exact⟨_,e,rfl,rfl⟩
abbrev zh1 (c:Bool) (h:Heap) (l1:Addr):Heap:=h.push (itO c l1)
abbrev zh2 (c d:Bool) (h:Heap) (l1 l2:Addr):Heap:=(zh1 c h l1).push (itO d l2)
abbrev zh3 (c d:Bool) (h:Heap) (l1 l2:Addr):Heap:=(zh2 c d h l1 l2).push { cls:=.type "tuple",data:=.seq #[.ref h.objs.size,.ref (zh1 c h l1).objs.size] }
abbrev zh4 (c d:Bool) (h:Heap) (l1 l2:Addr):Heap:=(zh3 c d h l1 l2).push { cls:=.type "tuple",data:=.seq #[.none,.none] }
abbrev zh5 (c d:Bool) (h:Heap) (l1 l2:Addr):Heap:=(zh4 c d h l1 l2).push { cls:=.type "zip",data:=.fields #[.none,.bool false,.bool false,.ref (zh2 c d h l1 l2).objs.size,.ref (zh3 c d h l1 l2).objs.size] }
theorem jcg (c d:Bool) (l1 l2:Addr) (xs ys:Array Value):Meets (Builtin.«zip.__new__» ⟨[.type "zip",.ref l1,.ref l2],[]⟩) (fun _ R s=>SqA c s.heap l1 xs∧SqA d s.heap l2 ys∧R (.ok (.ret (.ref (zh4 c d s.heap l1 l2).objs.size))) { s with heap:=zh5 c d s.heap l1 l2 }) :=
 .of_wp fun prog w A R s h=>by
  obtain⟨hp,g,dd,tk,os⟩:=s
  obtain⟨m1,m2,h⟩:=h
  have hsub:=PySem.sub_zip
  have M1:SqA c (Shared.heap ⟨hp,g,dd,tk,os⟩) l1 xs:=m1
  have M2:SqA d (Shared.heap ⟨hp.push (itO c l1),g,dd,tk,os⟩) l2 ys:=m2.at fun o e=>Heap.get?_push_of_some _ e
  wp_walk using iterA M1,iterA M2
  exact⟨_,rfl,h⟩
theorem jao {c d:Bool}{l1 l2:Addr}{xs ys:Array Value}{Q:Value→Shared→Prop} (m1:SqA c s.heap l1 xs) (m2:SqA d s.heap l2 ys)
  (h:∀ h',IsZip h' (s.heap.objs.size+4) (s.heap.objs.size+2) (s.heap.objs.size+3) .none→IsPair h' (s.heap.objs.size+2) (.ref s.heap.objs.size) (.ref (s.heap.objs.size+1)) →
   IsPair h' (s.heap.objs.size+3) .none .none→ItA c h' s.heap.objs.size l1 0→ItA d h' (s.heap.objs.size+1) l2 0→(∀ e o,s.heap.get? e=some o→h'.get? e=some o)→Q (.ref (s.heap.objs.size+4)) { s with heap:=h' }) :
  wpAny (model prog w) A (call (.type "zip") [.ref l1,.ref l2]) Q E s:=by
 refine callType_new F.called_zip (by decide) (F.typeCall_zip_2 _ _) (F.newCall_zip_2 _ _) (fun obj=>F.args_object_init_3 obj _ _) F.entry_zip_new (jcg c d l1 l2 xs ys) ⟨m1,m2,?_⟩
 have n1:(zh1 c s.heap l1).objs.size=s.heap.objs.size+1:=Heap.size_push ..
 have n2:(zh2 c d s.heap l1 l2).objs.size=s.heap.objs.size+2:=by rw[Heap.size_push,n1]
 have n3:(zh3 c d s.heap l1 l2).objs.size=s.heap.objs.size+3:=by rw[Heap.size_push,n2]
 have n4:(zh4 c d s.heap l1 l2).objs.size=s.heap.objs.size+4:=by rw[Heap.size_push,n3]
 have up1:∀ {h:Heap}{o u:Obj}{e:Addr},h.get? e=some u→(h.push o).get? e=some u:=fun q=>Heap.get?_push_of_some _ q
 have g5:(zh5 c d s.heap l1 l2).get? (zh4 c d s.heap l1 l2).objs.size=some _:=Heap.get?_push_size _ rfl
 have g4:(zh5 c d s.heap l1 l2).get? (zh3 c d s.heap l1 l2).objs.size=some _:=up1 (Heap.get?_push_size _ rfl)
 have g3:(zh5 c d s.heap l1 l2).get? (zh2 c d s.heap l1 l2).objs.size=some _:=up1 (up1 (Heap.get?_push_size _ rfl))
 have g2:(zh5 c d s.heap l1 l2).get? (zh1 c s.heap l1).objs.size=some (itO d l2):=up1 (up1 (up1 (Heap.get?_push_size _ (by cases d <;> rfl))))
 have g1:(zh5 c d s.heap l1 l2).get? s.heap.objs.size=some (itO c l1):=up1 (up1 (up1 (up1 (Heap.get?_push_size _ (by cases c <;> rfl)))))
 show _∧_
 rw[n2,n3,n4] at g5
 rw[n1,n2] at g3
 rw[n3] at g4
 rw[n1] at g2
 rw[n4]
 exact⟨⟨_,g5,rfl⟩,h _ g5 g3 g4 (je6 g1) (je6 g2) fun e o q=>up1 (up1 (up1 (up1 (up1 q))))⟩
end
def SqE (K:PySem.W.Frag) (H:Hp) (a:Addr) (xs:List V):Bool→Prop
 | false=>SqL K H a xs
 | true=>SqT K H a xs
theorem SqE.mono {K:PySem.W.Frag}{H H':Hp}{a:Addr}{xs:List V}{b:Bool} (e:Ext H H') (h:SqE K H a xs b):SqE K H' a xs b:=by
 cases b
 ·exact e.seqL h
 ·exact e.seqT h
theorem Inv.sqe {X:Cx}{pins:List (Addr × Obj)}{σ:St}{H:Hp}{s:Shared}{a:Addr}{xs:List V}{b:Bool} (I:Inv X pins σ H s) (h:SqE X.K H a xs b):∃ its:List Value,Vals xs its∧SqA b s.heap a its.toArray∧xs.length≤sizeLine:=by
 cases b
 ·obtain⟨its,r,p,z⟩:=I.list h;exact⟨its,r,p.isList,z⟩
 ·obtain⟨its,r,p,z⟩:=I.tuple h;exact⟨its,r,p,z⟩
theorem Inv.sqe_inj {X:Cx}{pins:List (Addr × Obj)}{σ:St}{H:Hp}{s:Shared}{a:Addr}{xs ys:List V}{b:Bool} (I:Inv X pins σ H s) (h:SqE X.K H a xs b) (h':SqE X.K H a ys b):xs=ys:=by
 cases b
 ·exact I.list_inj h h'
 ·exact I.tuple_inj h h'
def Itz2 (K:PySem.W.Frag) (c d:Bool) (p q:Addr):It :=
 ⟨fun i H=>∃ xs ys,SqE K H p xs c∧SqE K H q ys d∧i < xs.length∧i < ys.length,
   fun i H x H'=>∃ r u v,H r=none∧x=.ref r∧H'=upd H r (.tup [u,v])∧∀ xs ys,SqE K H p xs c→SqE K H q ys d→xs[i]?=some u∧ys[i]?=some v,
   fun i H=>∃ xs ys,SqE K H p xs c∧SqE K H q ys d∧(xs.length≤i∨ys.length≤i)⟩
def zst (c d:Bool) (z TI TO i1 i2 l1 l2:Addr) (i:Nat) (h:Heap):Prop:=IsZip h z TI TO .none∧IsPair h TI (.ref i1) (.ref i2)∧(∃ a b,IsPair h TO a b)∧ItA c h i1 l1 i∧ItA d h i2 l2 i
theorem jap {P:Program}{w:World}{K:PySem.W.Frag}{es:List Expr}{kx:Nat}{tp:Pos}{cc dd:Bool}{z TI TO i1 i2 l1 l2:Addr} (D:ZipApart z TI TO i1 i2 l1 l2) :
  Turn P w K (.Tuple es kx tp) (Itz2 K cc dd l1 l2) [z,TI,TO,i1,i2] z (zst cc dd z TI TO i1 i2 l1 l2) where
 mem:=by simp
 obj:=fun i h st b hb=>by
  obtain⟨hz,hTI,⟨a,c,hTO⟩,s1,s2⟩:=st
  simp only[List.mem_cons,List.mem_nil_iff,or_false] at hb
  rcases hb with rfl | rfl | rfl | rfl | rfl
  ·exact⟨_,hz,fun v q=>by cases q⟩
  ·exact⟨_,hTI,fun v q=>by cases q⟩
  ·exact⟨_,hTO,fun v q=>by cases q⟩
  ·exact s1.ex
  ·exact s2.ex
 keep:=fun i h h' st k=>by
  obtain⟨hz,hTI,⟨a,c,hTO⟩,s1,s2⟩:=st
  exact⟨k z (by simp) _ hz,k TI (by simp) _ hTI,⟨a,c,k TO (by simp) _ hTO⟩,s1.at fun o e=>k i1 (by simp) o e,s2.at fun o e=>k i2 (by simp) o e⟩
 item:=by
  intro X hP hw hK hc i pins s σ H E I hf st hg
  subst hP hw hK
  obtain⟨xs,ys,hx,hy,lx,ly⟩:=hg
  obtain⟨hz,hTI,⟨a,c,hTO⟩,s1,s2⟩:=id st
  obtain⟨us,ru,pu,zu⟩:=I.sqe hx
  obtain⟨ws,rw',pw,zw⟩:=I.sqe hy
  obtain⟨u,eu,r1⟩:=ru.get (List.getElem?_eq_getElem lx)
  obtain⟨v,ev,r2⟩:=rw'.get (List.getElem?_eq_getElem ly)
  refine jan D hz hTI hTO s1 s2 pu pw (x:=u) (y:=v) (by simpa using eu) (by simpa using ev) fun h1 z1 t1 j1 j2 np kk=>⟨_,rfl,?_⟩
  refine wpAny_letOwnedTupleGo_zip z1 fun h2 z2 sb=>?_
  have nT:s.heap.objs.size≠z:=Nat.ne_of_gt (Heap.lt_size hz)
  have kk2:∀ b o,b∉[z,TI,TO,i1,i2]→s.heap.get? b=some o→h2.get? b=some o:=fun b o hb e=>by
   simp only[List.mem_cons,List.mem_nil_iff,or_false,not_or] at hb
   exact sb.extBut b o hb.1 (kk b o hb.1 hb.2.2.1 hb.2.2.2.1 hb.2.2.2.2 e)
  have np2:IsPair h2 s.heap.objs.size u v:=sb.extBut _ _ nT np
  have I2:=I.turnLaid (t':=s.toks) (a:=s.heap.objs.size) (o:=.tup [xs[i],ys[i]]) kk2 hf (Nat.le_refl _) (show ObjOk X.prog X.w _ h2 _ (.tup [xs[i],ys[i]]) from⟨by show 2≤sizeLine;rw[sizeLine_eq];decide,[u,v],.cons r1 (.cons r2 .nil),⟨⟨_,np2,rfl,0,rfl⟩,_,np2,rfl⟩⟩)
  refine⟨.ref s.heap.objs.size,_,I2,rfl,⟨_,_,_,I.hok.fresh (Nat.le_refl _),rfl,rfl,fun xs' ys' e1 e2=>?_⟩,?_,fun b hb=>?_⟩
  ·rw[I.sqe_inj e1 hx,I.sqe_inj e2 hy]
   exact⟨List.getElem?_eq_getElem lx,List.getElem?_eq_getElem ly⟩
  ·exact⟨z2,sb.extBut _ _ D.TIz (kk TI _ D.TIz D.TITO D.TIi1 D.TIi2 hTI),⟨_,_,sb.extBut _ _ D.TOz t1⟩,j1.at fun o e=>sb.extBut _ o D.i1z e,j2.at fun o e=>sb.extBut _ o D.i2z e⟩
  ·rw[j0o (fun q=>?_)]
   ·exact (hf b hb).1
   ·have lt:b < s.heap.objs.size:=by
     simp only[List.mem_cons,List.mem_nil_iff,or_false] at hb
     rcases hb with rfl | rfl | rfl | rfl | rfl
     ·exact Heap.lt_size hz
     ·exact Heap.lt_size hTI
     ·exact Heap.lt_size hTO
     ·exact s1.lt
     ·exact s2.lt
    exact absurd lt (by rw[q];exact Nat.lt_irrefl _)
 done:=by
  intro X hP hw hK hc i pins s σ H E I hf st hg
  subst hP hw hK
  obtain⟨xs,ys,hx,hy,hl⟩:=hg
  obtain⟨hz,hTI,⟨a,c,hTO⟩,s1,s2⟩:=st
  obtain⟨us,ru,pu,zu⟩:=I.sqe hx
  obtain⟨ws,rw',pw,zw⟩:=I.sqe hy
  have l1:=ru.length
  have l2:=rw'.length
  refine jcf (I.ok.hd hc) D hz hTI hTO s1 s2 pu pw ?_ fun h1 kk=>⟨rfl,I.turns (t':=s.toks) (ch:=[z,TI,TO,i1,i2]) (fun b o hb e=>?_) hf⟩
  ·rcases hl with q | q
   ·exact .inl (by simp;omega)
   ·exact .inr (by simp;omega)
  ·simp only[List.mem_cons,List.mem_nil_iff,or_false,not_or] at hb
   exact kk b o hb.1 hb.2.2.1 hb.2.2.2.1 hb.2.2.2.2 e
 self:=fun _ _ _ _ _ st h=>wpAny_pyIter_zip st.1 h
section
variable {X:Cx}
def iZip2 (K:PySem.W.Frag) (ta:TA):TI:=fun σ H R=>ta σ H fun vs H1=>∃ p q xs ys c d,vs=[.ref p,.ref q]∧SqE K H1 p xs c∧SqE K H1 q ys d∧R (Itz2 K c d p q) H1
theorem j9f {es:List Expr}{kx:Nat}{tp:Pos}{a b:Expr}{ta:TA}{p pos:Pos} (hg:Gl X "zip") (hm:X.mg "zip"=none) (ha:PA X [a,b] ta) (hs:starEach [a,b] X.env=[(false,eval a X.env),(false,eval b X.env)]:=by rfl) (hs2:starEach [b] X.env=[(false,eval b X.env)]:=by rfl) :
  PI X (.Tuple es kx tp) (.Call (.Name "zip" p) [a,b] [] pos) (iZip2 X.K ta):=by
 intro pins s σ H R I h
 refine Call_ (j6b I hg hm boot_zip (PyProof.Rows.callWith_type1 (thn (ha pos pins s σ H _ I h) fun us s1 ⟨vs,H1,I1,r1,q1⟩=>?_) (by rw[hs,hs2]) (by rw[hs2];rfl)))
 obtain⟨p1,p2,xs,ys,c,d,e,hx,hy,q⟩:=q1
 subst e
 obtain⟨u,v,rfl,ru,rv⟩:=jde r1
 cases ru
 cases rv
 obtain⟨i1,ri1,pl1,z1⟩:=I1.sqe hx
 obtain⟨i2,ri2,pl2,z2⟩:=I1.sqe hy
 refine jao pl1 pl2 fun h' hz hTI hTO j1 j2 hk=>?_
 have I2:Inv X pins σ H1 { s1 with heap:=h' }:=I1.kept (t':=s1.toks) hk
 refine wpAny_pyIter_zip (s:={ s1 with heap:=h' }) hz ⟨_,[s1.heap.objs.size+4,s1.heap.objs.size+2,s1.heap.objs.size+3,s1.heap.objs.size,s1.heap.objs.size+1],_,_,H1,rfl,I2,jap (zipApart_new pl1.lt pl2.lt),⟨hz,hTI,⟨_,_,hTO⟩,j1,j2⟩,fun b hb=>?_,q⟩
 have hb':s1.heap.objs.size≤b:=by
  simp only[List.mem_cons,List.mem_nil_iff,or_false] at hb
  rcases hb with rfl | rfl | rfl | rfl | rfl <;> omega
 exact I1.fpOk hb' (I1.hok.fresh hb')
end
theorem jch {K:PySem.W.Frag}{p q:Addr}{c d:Bool}{xs ys:List V}{g:TG}{tb:TS}{D:Ends}{σ:St}{H:Hp} (Pv:Nat→St→Hp→Prop) (hl:xs.length=ys.length) (h0:Pv 0 σ H) (hq:∀ i σ H,i≤xs.length→Pv i σ H→SqE K H p xs c∧SqE K H q ys d)
  (hs:∀ i x y σ H r,xs[i]?=some x→ys[i]?=some y→Pv i σ H→H r=none→g (.ref r) σ (upd H r (.tup [x,y])) fun σ2 H2=>tb { D with nx:=Pv (i+1),ct:=Pv (i+1),bk:=D.nx } σ2 H2) (hd:∀ σ H,Pv xs.length σ H→D.nx σ H) :
  ∃ W:Nat→Nat→St→Hp→Prop,(∃ m,W 0 m σ H)∧∀ i m σ H,W i m σ H →
   ((Itz2 K c d p q).stop i H∧D.nx σ H)∨((Itz2 K c d p q).go i H∧∃ N:St→Hp→Prop,(∀ σ' H',N σ' H'→∃ m',m' < m∧W (i+1) m' σ' H')∧∀ x H',(Itz2 K c d p q).yld i H x H'→g x σ H' fun σ2 H2=>tb { D with nx:=N,ct:=N,bk:=D.nx } σ2 H2):=by
 refine⟨fun i m σ H=>m=xs.length-i∧i≤xs.length∧Pv i σ H,⟨xs.length,by simp,Nat.zero_le _,h0⟩,?_⟩
 rintro i m σ H ⟨rfl,hi,pv⟩
 obtain⟨q1,q2⟩:=hq i σ H hi pv
 by_cases hlt:i < xs.length
 ·refine .inr ⟨⟨xs,ys,q1,q2,hlt,by omega⟩,Pv (i+1),fun σ' H' p'=>⟨xs.length-(i+1),by omega,rfl,hlt,p'⟩,fun x H' y=>?_⟩
  obtain⟨r,u,v,n,rfl,rfl,y⟩:=y
  obtain⟨e1,e2⟩:=y xs ys q1 q2
  exact hs i u v σ _ r e1 e2 pv n
 ·have e:i=xs.length:=by omega
  subst e
  exact .inl ⟨⟨xs,ys,q1,q2,.inl (Nat.le_refl _)⟩,hd σ H pv⟩
theorem j7o {K:PySem.W.Frag}{ts:List TT}{te:TE}{acc:Addr}{fr:St}{H1:Hp}{R:Hp→Prop}{xs zs:List V}{p q:Addr}{c d:Bool}{u v:Option V} (hx:SqE K H1 p xs c) (hy:SqE K H1 q zs d) (hl:xs.length=zs.length) (hz:xs.length≤1000000) (hn:H1 acc=none) (Pv:Nat→List V→Hp→Prop) (h0:Pv 0 [] H1) (kp:∀ i ys H H',Kp H H'→Pv i ys H→Pv i ys H') (len:∀ i ys H,i≤xs.length→Pv i ys H→ys.length≤i)
  (turn:∀ i x z ys H H',xs[i]?=some x→zs[i]?=some z→Ext H1 H→Ext H H'→Pv i ys H→j9d ts te (Pv (i+1)) ys H (some x :: some z :: fr) H')
  (fin:∀ ys H,Ext H1 H→H acc=some (.lst ys)→Pv xs.length ys H→R H):j6k (Itz2 K c d p q) (gTup K 2 (jd4 (j68 0) (jd4 (j68 1) gNil))) ts te acc (u :: v :: fr) H1 R:=by
 refine j3k xs.length hz hn (fun σ=>∃ u v,σ=u :: v :: fr) Pv ⟨u,v,rfl⟩ h0 kp (fun i H hi e=>⟨xs,zs,hx.mono e,hy.mono e,hi,by omega⟩) (fun H e=>⟨xs,zs,hx.mono e,hy.mono e,.inl (Nat.le_refl _)⟩) len ?_ fin
 rintro i σ ys H x H' G hi e ⟨u,v,rfl⟩ pv ⟨r,y1,y2,nr,rfl,rfl,y⟩ hG
 obtain⟨e1,e2⟩:=y xs zs (hx.mono e) (hy.mono e)
 exact⟨r,[y1,y2],rfl,SqT.of j0k,rfl,y1,[y2],rfl,y2,[],rfl,rfl,hG _ _ ⟨_,_,rfl⟩ (turn i y1 y2 ys _ _ e1 e2 e (j1c nr) pv)⟩
section
variable {prog:Program}{w:World}{A:Around}{E:Value→Shared→Prop}{s:Shared}
theorem j9g {b:Bool}{l:Addr}{vs:List Value}{Q:List Value→Shared→Prop} (hl:SqA b s.heap l vs.toArray) (hz:vs.length≤sizeLine)
  (h:Q vs { s with heap:=(s.heap.push (seqObj "list" #[] 0)).update s.heap.objs.size (Obj.mapSeq (·++vs.toArray)) }):wpAny (model prog w) A (collect (.ref l)) Q E s:=by
 cases b with
 | false=>exact collect_list hl h hz
 | true =>
  obtain⟨ob,eb,cb,nb,db⟩:=id hl
  unfold collect;refine wpAny_bind (wpAny_runValue (codeAny_builtin entry_proto_collect' ?_))
  show wpAny _ _ (do again (.builtin "list.__iadd__" ⟨[← newList [],.ref l],[]⟩)) _ _ _;refine wpAny_bind (wpAny_newList (wpAny_pure ⟨Code.quiet_builtin _ (by decide +kernel),codeAny_builtin entry_list_iadd' ?_⟩))
  show wpAny _ _ (Builtin.List.listExtendWith (.ref s.heap.objs.size) (.ref l) (.ref s.heap.objs.size)) _ _ { s with heap:=s.heap.push (seqObj "list" #[] 0) };unfold Builtin.List.listExtendWith
  have eb':(s.heap.push (seqObj "list" #[] 0)).get? l=some ob:=Heap.get?_push_of_some _ eb
  refine wpAny_bind (wpAny_typeOf (T:="tuple") ⟨ob,eb',cb⟩ ?_)
  rw[if_pos (by rw[show (Value.type "tuple" == Value.type "tuple")=true from rfl];simp)]
  refine wpAny_bind (listItems_at eb' db (wpAny_bind (listItems_at (xs:=#[]) (n:=0) (Heap.get?_push_size _ rfl) rfl ?_)));rw[if_neg (by simp)]
  refine wpAny_bind (listUpdate_at (xs:=#[]) (n:=0) (Heap.get?_push_size _ rfl) rfl (wpAny_pure ?_) (Nat.zero_le _) (by show (#[]++vs.toArray).size≤sizeLine+1;simp only[Array.size_append,List.size_toArray,List.length_nil];omega))
  show wpAny (model prog w) A (do let o ← load s.heap.objs.size;match o.data with | .seq xs _=>pure xs.toList | _=>unsupported "internal:collect") Q E { s with heap:=(s.heap.push (seqObj "list" #[] 0)).update s.heap.objs.size (Obj.mapSeq (·++vs.toArray)) }
  refine wpAny_bind (wpAny_load (get?_update_seq (Heap.get?_push_size _ rfl) _) ?_)
  show wpAny _ _ (pure ((#[]:Array Value)++vs.toArray).toList) Q E _;rw[show ((#[]:Array Value)++vs.toArray).toList=vs by simp];exact wpAny_pure h
theorem je7 {b:Bool}{l:Addr}{vs:List Value}{ns:List Int}{Q:Value→Shared→Prop} (hl:SqA b s.heap l vs.toArray) (hz:vs.length≤sizeLine) (hI:IntsAre vs ns) (h64:vs.length < 64)
  (h:∀ (out:Array Value) (ns':List Int),IntsAre out.toList ns'→ns'.Perm ns→ns'.Pairwise (·≤·)→Q (.ref (s.heap.objs.size+1)) { s with heap:=sortedAll s.heap vs out }):wpAny (model prog w) A (call (.builtin "sorted") [.ref l]) Q E s:=by
 refine Calls.call_function_entry kind_sorted plain_sorted entry_sorted (args_sorted1 _) ?_;unfold Builtin.«sorted»
 refine wpAny_bind (m:=checkCount "sorted" 1 1 _) (wpAny_pure (wpAny_bind (j9g hl hz (wpAny_bind (wpAny_newList ?_)))))
 have n1:((s.heap.push (seqObj "list" #[] 0)).update s.heap.objs.size (Obj.mapSeq (·++vs.toArray))).objs.size=s.heap.objs.size+1:=by rw[Heap.size_update,size_push']
 have o1:(((s.heap.push (seqObj "list" #[] 0)).update s.heap.objs.size (Obj.mapSeq (·++vs.toArray))).push (seqObj "list" vs.toArray 0)).get? (s.heap.objs.size+1)=some (seqObj "list" vs.toArray 0):=by rw[← n1];exact Heap.get?_push_size _ rfl
 show wpAny _ _ _ _ _ { s with heap:=((s.heap.push (seqObj "list" #[] 0)).update s.heap.objs.size (Obj.mapSeq (·++vs.toArray))).push (seqObj "list" vs.toArray 0) };rw[n1]
 exact wpAny_bind (wpAny_holding (wpAny_call_entry slot_list_sort ⟨_,o1,rfl⟩ entry_list_sort (list_sort_tree o1 hI h64 fun out ns' a1 a2 a3=>⟨_,rfl,wpAny_pure ⟨_,rfl,h out ns' a1 a2 a3⟩⟩) (args_list_sort _)))
end
section
variable {X:Cx}
def j7p (K:PySem.W.Frag):List V→Hp→VK→Prop:=fun xs H Q=>∃ (p:Addr) (ns:List Int) (c:Bool),xs=[.ref p]∧SqE K H p (ns.map V.int) c∧ns.length < 64∧∀ l (ns':List Int),H l=none→ns'.Perm ns→ns'.Pairwise (·≤·)→Q (.ref l) (upd H l (.lst (ns'.map V.int)))
theorem je8:CallR X (.builtin "sorted") (j7p X.K):=by
 intro pins s σ H xs us Q I r h
 obtain⟨p,ns,c,rfl,hq,h64,q⟩:=h
 obtain⟨u,rfl,rx⟩:=j8y r
 cases rx
 obtain⟨its,r',pl,hz⟩:=I.sqe hq
 have hi:IntsAre its ns:=j2g r'
 have hlen:=r'.length
 rw[List.length_map] at hlen hz
 refine je7 pl (by omega) hi (by omega) fun out ns' a1 a2 a3=>?_
 obtain⟨e,he⟩:=sortedAll_at s.heap its out
 refine⟨.ref (s.heap.objs.size+1),_,I.laid (t':=s.toks) (fun b o q=>sortedAll_old q) (Nat.le_succ _) (show ObjOk X.prog X.w _ _ _ (.lst (ns'.map V.int)) from⟨by rw[List.length_map,a2.length_eq];exact hz,out.toList,e,j52 a1,by simpa using he⟩),rfl,q _ ns' (I.hok.fresh (Nat.le_succ _)) a2 a3⟩
def rAll (K:PySem.W.Frag):List V→Hp→VK→Prop:=fun xs H Q=>∃ (p:Addr) (bs:List Bool),xs=[.ref p]∧SqL K H p (bs.map V.bl)∧Q (.bl (bs.all id)) H
theorem j9h:∀ {bs:List Bool}{us:List Value},Vals (bs.map V.bl) us→us=bs.map Value.bool
 | [],us,r=>by cases r;rfl
 | b :: bs,us,r=>by
  cases r with
  | cons r1 r2=>rw[j9h r2,show _=Value.bool b from r1];rfl
theorem jaq:∀ bs:List Bool,(List.range bs.length).all (fun i=>bs.getD i true)=bs.all id:=by
 intro bs
 rw[Bool.eq_iff_iff,List.all_eq_true,List.all_eq_true]
 constructor
 ·intro h x hx
  obtain⟨i,hi,rfl⟩:=List.getElem_of_mem hx
  have:=h i (List.mem_range.mpr hi)
  rwa [List.getD_eq_getElem?_getD,List.getElem?_eq_getElem hi] at this
 ·intro h i hi
  have hi':=List.mem_range.mp hi
  rw[List.getD_eq_getElem?_getD,List.getElem?_eq_getElem hi']
  exact h _ (List.getElem_mem hi')
theorem cAll (hc:X.calm=true):CallR X (.builtin "all") (rAll X.K):=by
 intro pins s σ H xs us Q I r h
 obtain⟨p,bs,rfl,hq,q⟩:=h
 obtain⟨u,rfl,rx⟩:=j8y r
 cases rx
 obtain⟨its,r',pl,hz⟩:=I.list hq
 have e:=j9h r'
 subst e
 refine call_all_walk (wpAny_pyIter_list pl.isList ?_)
 have ne:p≠s.heap.objs.size:=by obtain⟨_,e,_⟩:=pl.isList;exact Nat.ne_of_lt (Heap.lt_size e)
 refine⟨s.heap.objs.size,_,_,_,_,_,fun i=>bs.getD i true,rfl,Walks.list (A:=X.A.in1) (I.ok.hd hc) _ p ne (bs.map Value.bool).toArray,⟨⟨_,Heap.get?_push_size _ rfl,rfl,rfl⟩,Heap.IsList.push pl.isList _⟩,fun i v s' Q' E' hv hQ=>?_,fun h' tk hk=>?_⟩
 ·have hv':(bs.map Value.bool)[i]?=some v:=by simpa using hv
  rw[List.getElem?_map] at hv'
  cases e:bs[i]? with
  | none=>rw[e] at hv';cases hv'
  | some b =>
   rw[e] at hv'
   cases hv'
   refine wpAny_truthy_bool ?_
   have:bs.getD i true=b:=by rw[List.getD_eq_getElem?_getD,e];rfl
   have hQ':Q' (bs.getD i true) s':=hQ
   rw[this] at hQ'
   exact hQ'
 ·refine⟨.bl (bs.all id),H,I.kept (t':=tk) fun b o q=>hk b o (by simp;exact Nat.ne_of_lt (Heap.lt_size q)) (Heap.get?_push_of_some _ q),?_,q⟩
  show Value.bool _=Value.bool _
  rw[← jaq bs]
  simp
end
mutual
def D.py:D→PyData
 | .non=>.none | .bl b=>.bool b | .int i=>.int i | .str x=>.str x | .tup l=>.tuple (D.pyL l) | .lst l=>.list (D.pyL l) | .dct=>.dict []
def D.pyL:List D→List PyData
 | []=>[]
 | d :: r=>d.py :: D.pyL r
def D.eqOk:D→Bool
 | .str x=>PyData.strOk x
 | .tup l=>D.eqOkL l
 | .lst l=>D.eqOkL l
 | .dct=>false
 | _=>true
def D.eqOkL:List D→Bool
 | []=>true
 | d :: r=>d.eqOk && D.eqOkL r
end
mutual
theorem D.canLay:∀ d:D,d.eqOk=true→d.py.canLay0=true
 | .non,_=>by simp[D.py,PyData.canLay0]
 | .bl _,_=>by simp[D.py,PyData.canLay0]
 | .int _,_=>by simp[D.py,PyData.canLay0]
 | .str x,h=>by simp only[D.eqOk] at h;simpa[D.py,PyData.canLay0] using h
 | .tup l,h=>by simp only[D.eqOk] at h;simpa[D.py,PyData.canLay0] using D.canLayL l h
 | .lst l,h=>by simp only[D.eqOk] at h;simpa[D.py,PyData.canLay0] using D.canLayL l h
 | .dct,h=>by simp[D.eqOk] at h
theorem D.canLayL:∀ l:List D,D.eqOkL l=true→PyData.canLayAll0 (D.pyL l)=true
 | [],_=>by simp[D.pyL,PyData.canLayAll0]
 | d :: r,h=>by
  simp only[D.eqOkL,Bool.and_eq_true] at h
  simp[D.pyL,PyData.canLayAll0,D.canLay d h.1,D.canLayL r h.2]
theorem D.pyDepth:∀ d:D,d.py.depth≤d.depth+1
 | .non=>by simp[D.py,PyData.depth]
 | .bl _=>by simp[D.py,PyData.depth]
 | .int _=>by simp[D.py,PyData.depth]
 | .str _=>by simp[D.py,PyData.depth]
 | .tup l=>by have:=D.pyDepthL l;simp only[D.py,PyData.depth,D.depth];omega
 | .lst l=>by have:=D.pyDepthL l;simp only[D.py,PyData.depth,D.depth];omega
 | .dct=>by simp[D.py,PyData.depth,PyData.depthKv,D.depth]
theorem D.pyDepthL:∀ l:List D,PyData.depthAll (D.pyL l)≤D.depthL l+1
 | []=>by simp[D.pyL,PyData.depthAll]
 | d :: r=>by have a:=D.pyDepth d;have b:=D.pyDepthL r;simp only[D.pyL,PyData.depthAll,D.depthL];omega
end
section
variable {X:Cx}{pins:List (Addr × Obj)}{σ:St}{H:Hp}{s:Shared}
mutual
theorem j3m (I:Inv X pins σ H s):∀ (d:D) {v:V}{u:Value},Rep H d v→RelV v u→d.eqOk=true→∃ as,Reads s.heap u d.py as
 | .non,v,u,h,r,_=>by unfold Rep at h;subst h;cases (show u=Value.none from r);exact⟨_,.none⟩
 | .bl b,v,u,h,r,_=>by unfold Rep at h;subst h;cases (show u=Value.bool b from r);exact⟨_,.bool b⟩
 | .int i,v,u,h,r,_=>by unfold Rep at h;subst h;obtain⟨t,rfl⟩:=r;exact⟨_,.int i t⟩
 | .str x,v,u,h,r,_=>by unfold Rep at h;subst h;obtain⟨t,rfl⟩:=r;exact⟨_,.str x t⟩
 | .tup l,v,u,h,r,ok=>by
  unfold Rep at h
  obtain⟨p,xs,rfl,hp,hl⟩:=h
  cases (show u=Value.ref p from r)
  obtain⟨its,rv,ht,hz⟩:=I.tuple (SqT.of (K:=X.K) hp)
  obtain⟨as,ra⟩:=readsL_of I l hl rv (by simpa[D.eqOk] using ok)
  obtain⟨o,e,c,n,dt⟩:=ht
  exact⟨as,.tuple e c dt (by simpa using ra)⟩
 | .lst l,v,u,h,r,ok=>by
  unfold Rep at h
  obtain⟨p,xs,rfl,hp,hl⟩:=h
  cases (show u=Value.ref p from r)
  obtain⟨its,rv,ht,hz⟩:=I.list (SqL.of (K:=X.K) hp)
  obtain⟨as,ra⟩:=readsL_of I l hl rv (by simpa[D.eqOk] using ok)
  obtain⟨o,e,c,n,dt⟩:=ht.isList
  exact⟨_,.list e c dt (by simpa using ra)⟩
 | .dct,v,u,h,r,ok=>by simp[D.eqOk] at ok
theorem readsL_of (I:Inv X pins σ H s):∀ (l:List D) {vs:List V}{us:List Value},RepL H l vs→Vals vs us→D.eqOkL l=true→∃ as,ReadsAll s.heap us (D.pyL l) as
 | [],vs,us,h,r,_=>by unfold RepL at h;subst h;cases r;exact⟨_,.nil⟩
 | d :: l,vs,us,h,r,ok=>by
  unfold RepL at h
  obtain⟨x,t,rfl,hd,hl⟩:=h
  simp only[D.eqOkL,Bool.and_eq_true] at ok
  cases r with
  | cons r1 r2 =>
   obtain⟨as,a1⟩:=j3m I d hd r1 ok.1
   obtain⟨bs,b1⟩:=readsL_of I l hl r2 ok.2
   exact⟨_,.cons a1 b1⟩
end
def eqD (a b:D):Bool:=PyData.eqv a.py b.py
def rEqD (neg:Bool):R2:=fun x y H Q=>∃ a b,Rep H a x∧Rep H b y∧a.eqOk=true∧b.eqOk=true∧a.depth≤20∧Q (.bl (if neg then !eqD a b else eqD a b)) H
def rEqU:R2:=fun x y H Q=>rEq x y H Q∨rEqD false x y H Q
def rNeU:R2:=fun x y H Q=>rNe x y H Q∨rEqD true x y H Q
theorem op_eqD {k:Nat} (hr:Room k X.A):OpR X (compareOp .Eq) (rEqD false):=by
 intro pins s σ H x y v u Q I rx ry h
 obtain⟨a,b,ha,hb,oa,ob,hd,q⟩:=h
 obtain⟨as,r1⟩:=j3m I a ha rx oa
 obtain⟨bs,r2⟩:=j3m I b hb ry ob
 have h1:=D.pyDepth a
 exact SeqAt.compareEq_reads r1 r2 (D.canLay a oa) (D.canLay b ob) (by have:=hr.units;omega) ⟨.bl (eqD a b),H,I,rfl,q⟩
theorem oEq {k:Nat} (hr:Room k X.A):OpR X (compareOp .Eq) rEqU:=op_eq.or (op_eqD hr)
end
section
variable {X:Cx}
def je9 (K:PySem.W.Frag):R2:=fun x y H Q=>∃ a b xs ys,x=.ref a∧y=.ref b∧SqT K H a xs∧SqT K H b ys∧xs.length+ys.length≤1000000 ∧
 (xs=[]→Q (.ref b) H)∧(xs≠[]→ys=[]→Q (.ref a) H)∧(xs≠[]→ys≠[]→∀ p,H p=none→Q (.ref p) (upd H p (.tup (xs++ys))))
theorem jci:OpR X (binaryOp .Add) (je9 X.K):=by
 intro pins s σ H x y v u Q I rx ry h
 obtain⟨a,b,xs,ys,rfl,rfl,ha,hb,hl,q0,q1,q2⟩:=h
 cases rx
 cases ry
 obtain⟨is1,r1,t1,z1⟩:=I.tuple ha
 obtain⟨is2,r2,t2,z2⟩:=I.tuple hb
 have l1:=r1.length
 have l2:=r2.length
 have hz:is1.length+is2.length≤sizeLine:=by rw[sizeLine_eq];omega
 by_cases e:is1=[]
 ·subst e
  have ex:xs=[]:=List.length_eq_zero_iff.mp (by simpa using l1)
  obtain⟨⟨cls,dd,data,sl⟩,ho,hc,n,hd⟩:=id t1
  obtain⟨⟨cls2,dd2,data2,sl2⟩,ho2,hc2,n2,hd2⟩:=id t2
  simp only at hc hd hc2 hd2
  subst hc hd hc2 hd2
  exact concat_meets ⟨_,ho,rfl⟩ ⟨_,ho2,rfl⟩ noFill_tuple_add seq_tuple_add PySem.F.slot_tuple_add PySem.F.entry_tuple_add (PySem.F.args_tuple_add_2 _ _)
   (tuple_addW0 a b _ is2.toArray n n2 dd dd2 sl sl2 (by simp)) ⟨ho,ho2,⟨.ref b,H,I,rfl,q0 ex⟩⟩
 ·have ex:xs≠[]:=fun z=>e (List.length_eq_zero_iff.mp (by rw[← l1,z];rfl))
  refine HT.cat_tup t1 t2 e (fun w=>⟨.ref a,H,I,rfl,q1 ex (List.length_eq_zero_iff.mp (by rw[l2,w];rfl))⟩) (fun w=>?_) hz
  have ey:ys≠[]:=fun z=>w (List.length_eq_zero_iff.mp (by rw[← l2,z];rfl))
  refine⟨.ref s.heap.objs.size,_,I.laid (t':=s.toks) (fun b o e=>Heap.get?_push_of_some _ e) (Nat.le_refl _) (show ObjOk X.prog X.w _ _ _ (.tup (xs++ys)) from⟨by rw[List.length_append];omega,is1++is2,r1.append r2,TupN.new _ _⟩),rfl,q2 ex ey _ (I.hok.fresh (Nat.le_refl _))⟩
def jea (K:PySem.W.Frag):R2:=fun x y H Q=>(rI0 (fun i j=>.int (i+j)) x y H Q∨rCat x y H Q)∨je9 K x y H Q
theorem oAddV:OpR X (binaryOp .Add) (jea X.K):=(op_add.or op_cat).or jci
end
section
variable {K:PySem.W.Frag}{σ:St}{H:Hp}{Q:VK}{D:Ends}
theorem jeb {i j:Int} (q:Q (.int (i+j)) H):jea K (.int i) (.int j) H Q:=.inl (.inl ⟨i,j,rfl,rfl,q⟩)
theorem r_catL {l b:Addr}{xs zs:List V} (h1:H l=some (.lst xs)) (h2:H b=some (.lst zs)) (hl:xs.length+zs.length≤1000000) (q:∀ p H',H p=none→H' p=some (.lst (xs++zs))→Ext H H'→Q (.ref p) H'):jea K (.ref l) (.ref b) H Q :=
 .inl (.inr ⟨l,b,xs,zs,rfl,rfl,h1,h2,Nat.le_trans hl (by rw[sizeLine_eq];decide),fun p n=>q p _ n j0k (j1c n)⟩)
theorem r_catT {l b:Addr}{xs zs:List V} (h1:H l=some (.tup xs)) (h2:H b=some (.tup zs)) (hl:xs.length+zs.length≤1000000) (q:∀ p H',H' p=some (.tup (xs++zs))→Ext H H'→Q (.ref p) H'):jea K (.ref l) (.ref b) H Q :=
 .inr ⟨l,b,xs,zs,rfl,rfl,SqT.of h1,SqT.of h2,hl,fun e=>q b H (by rw[e];exact h2) Ext.rfl',fun _ e=>q l H (by rw[e,List.append_nil];exact h1) Ext.rfl',fun _ _ p n=>q p _ j0k (j1c n)⟩
theorem r_gsub {to ti:TE}{t:TSet}{v:V}{R:St→Hp→Prop} (q:to σ H fun o H1=>ti σ H1 fun i H2=>t o i v H2 fun H3=>R σ H3):gSub to ti t v σ H R:=q
theorem jar {p:Addr}{xs:List V}{k:Int}{j:Nat}{v:V}{R:Hp→Prop} (h:H p=some (.lst xs)) (e:ixN xs.length k=some j) (q:∀ H',H' p=some (.lst (xs.set j v))→But p H H'→R H'):rSetL (.ref p) (.int k) v H R:=⟨p,xs,k,j,rfl,rfl,h,e,q _ j0k j99⟩
theorem r_sl {r:V→Option Int→Option Int→Hp→VK→Prop}{te:TE}{tl th:TO} (q:te σ H fun x H1=>tl σ H1 fun l H2=>th σ H2 fun u H3=>r x l u H3 Q):tSl r te tl th σ H Q:=q
theorem jcj {R:Option Int→Hp→Prop} (q:R none H):jbh σ H R:=q
def rPart (x:V) (R:Option Int→Hp→Prop) (H:Hp):Prop:=∃ i,x=.int i∧R (some i) H
theorem r_part {te:TE}{R:Option Int→Hp→Prop} (q:te σ H fun x H1=>rPart x R H1):tPart te σ H R:=q
theorem jec {i:Int}{R:Option Int→Hp→Prop} (q:R (some i) H):rPart (.int i) R H:=⟨i,rfl,q⟩
theorem r_slL {p:Addr}{xs:List V}{lo hi:Option Int} (h:H p=some (.lst xs)) (q:∀ l H',H l=none→H' l=some (.lst (cutV xs lo hi))→Ext H H'→Q (.ref l) H'):rSlU K (.ref p) lo hi H Q:=.inr ⟨p,xs,rfl,SqL.of h,fun l n=>q l _ n j0k (j1c n)⟩
theorem jgt {p:Addr}{xs:List V}{lo hi:Option Int} (h:H p=some (.tup xs)) (nw:¬ (HT.sIx xs.length 0 lo=0∧HT.sIx xs.length xs.length hi=xs.length)) (q:∀ l H',H l=none→H' l=some (.tup (cutV xs lo hi))→Ext H H'→Q (.ref l) H'):rSlU K (.ref p) lo hi H Q:=.inl ⟨p,xs,rfl,SqT.of h,nw,fun l n=>q l _ n j0k (j1c n)⟩
theorem r_zip2 {ta:TA}{R:It→Hp→Prop} (q:ta σ H fun vs H1=>∃ p q xs ys c d,vs=[.ref p,.ref q]∧SqE K H1 p xs c∧SqE K H1 q ys d∧R (Itz2 K c d p q) H1):iZip2 K ta σ H R:=q
theorem jas {p:Addr}{ns:List Int} (h:H p=some (.lst (ns.map V.int))) (hl:ns.length < 64) (q:∀ l (ns':List Int) H',H l=none→ns'.Perm ns→ns'.Pairwise (·≤·)→H' l=some (.lst (ns'.map V.int))→Ext H H'→Q (.ref l) H'):j7p K [.ref p] H Q :=
 ⟨p,ns,false,rfl,SqL.of h,hl,fun l ns' n a b=>q l ns' _ n a b j0k (j1c n)⟩
theorem jat {p:Addr}{ns:List Int} (h:H p=some (.tup (ns.map V.int))) (hl:ns.length < 64) (q:∀ l (ns':List Int) H',H l=none→ns'.Perm ns→ns'.Pairwise (·≤·)→H' l=some (.lst (ns'.map V.int))→Ext H H'→Q (.ref l) H'):j7p K [.ref p] H Q :=
 ⟨p,ns,true,rfl,SqT.of h,hl,fun l ns' n a b=>q l ns' _ n a b j0k (j1c n)⟩
theorem jed {p:Addr}{bs:List Bool} (h:H p=some (.lst (bs.map V.bl))) (q:Q (.bl (bs.all id)) H):rAll K [.ref p] H Q:=⟨p,bs,rfl,SqL.of h,q⟩
theorem r_eqUI {i j:Int} (q:Q (.bl (decide (i=j))) H):rEqU (.int i) (.int j) H Q:=.inl (r_eqI q)
theorem j09 {i j:Str} (q:Q (.bl (decide (i=j))) H):rEqU (.str i) (.str j) H Q:=.inl (r_eqS q)
theorem jee {x y:V}{a b:L2.D} (ha:Rep H a x) (hb:Rep H b y) (oa:a.eqOk=true) (ob:b.eqOk=true) (hd:a.depth≤20) (q:Q (.bl (eqD a b)) H):rEqU x y H Q:=.inr ⟨a,b,ha,hb,oa,ob,hd,q⟩
theorem r_inT {p:Addr}{x:V}{xs:List V} (h:H p=some (.tup xs)) (fx:j69 x=true) (fl:xs.all j69=true) (q:Q (.bl (inV x xs)) H):rInU K false x (.ref p) H Q:=⟨p,xs,rfl,.inr (SqT.of h),fx,fl,q⟩
theorem j6l {p:Addr}{x:V}{xs:List V} (h:H p=some (.tup xs)) (fx:j69 x=true) (fl:xs.all j69=true) (q:Q (.bl (!inV x xs)) H):rInU K true x (.ref p) H Q:=⟨p,xs,rfl,.inr (SqT.of h),fx,fl,q⟩
theorem j2a {te:TE}{Y:V→Hp→Prop}{N:Hp→Prop} (q:te σ H Y):j87 [] σ H fun b H3=>if b=true then te σ H3 Y else N H3:=by
 show (if true=true then te σ H Y else N H)
 rw[if_pos rfl]
 exact q
theorem jck {t:TT}{R:Bool→Hp→Prop} (q:t σ H fun b H1=>if b=true then R true H1 else R false H1):j87 [t] σ H R:=q
end
theorem j7q (ns:List Int):(ns.map V.int).all j69=true:=by
 rw[List.all_eq_true]
 intro x hx
 obtain⟨i,_,rfl⟩:=List.mem_map.mp hx
 rfl
theorem j9i (i:Int) (ns:List Int):inV (.int i) (ns.map V.int)=decide (i∈ns):=by
 unfold inV
 rw[List.any_map,Bool.eq_iff_iff,List.any_eq_true,decide_eq_true_iff]
 constructor
 ·rintro⟨x,hx,e⟩
  have:x=i:=by simpa[eqV] using e
  exact this ▸ hx
 ·intro h
  exact⟨i,h,by simp[eqV]⟩
theorem j6m:∀ ns ms:List Int,PyData.eqvAll (D.pyL (ns.map D.int)) (D.pyL (ms.map D.int))=decide (ns=ms)
 | [],[]=>by simp[D.pyL,PyData.eqvAll]
 | [],_ :: _=>by simp[D.pyL,PyData.eqvAll]
 | _ :: _,[]=>by simp[D.pyL,PyData.eqvAll]
 | a :: r,b :: t=>by
  simp only[List.map_cons,D.pyL,PyData.eqvAll,D.py,PyData.eqv,j6m r t]
  rw[Bool.eq_iff_iff]
  simp
theorem j9j (ns ms:List Int):eqD (.lst (ns.map D.int)) (.lst (ms.map D.int))=decide (ns=ms):=by
 unfold eqD;simp only[D.py,PyData.eqv];exact j6m ns ms
theorem j9k (ns ms:List Int):eqD (.tup (ns.map D.int)) (.tup (ms.map D.int))=decide (ns=ms):=by
 unfold eqD;simp only[D.py,PyData.eqv];exact j6m ns ms
theorem j2k (ns:List Int):D.eqOkL (ns.map D.int)=true:=by
 induction ns with
 | nil=>rfl
 | cons n r ih=>show (D.eqOk (.int n) && D.eqOkL (r.map D.int))=true;rw[ih];rfl
theorem Rep.tupInts {H:Hp}{p:Addr}{ns:List Int} (h:H p=some (.tup (ns.map V.int))):Rep H (.tup (ns.map D.int)) (.ref p):=Rep.tupI h (RepL.ints ns)
theorem Rep.lstInts {H:Hp}{p:Addr}{ns:List Int} (h:H p=some (.lst (ns.map V.int))):Rep H (.lst (ns.map D.int)) (.ref p):=Rep.lstI h (RepL.ints ns)
theorem jef {H:Hp}{Q:VK}{p q:Addr}{ns ms:List Int} (h1:H p=some (.lst (ns.map V.int))) (h2:H q=some (.lst (ms.map V.int))) (k:Q (.bl (decide (ns=ms))) H):rEqU (.ref p) (.ref q) H Q :=
 jee (Rep.lstInts h1) (Rep.lstInts h2) (j2k _) (j2k _) (by show D.depthL _+1≤20;rw[j24];decide) (by rw[j9j];exact k)
theorem jeg {H:Hp}{Q:VK}{p q:Addr}{ns ms:List Int} (h1:H p=some (.tup (ns.map V.int))) (h2:H q=some (.tup (ms.map V.int))) (k:Q (.bl (decide (ns=ms))) H):rEqU (.ref p) (.ref q) H Q :=
 jee (Rep.tupInts h1) (Rep.tupInts h2) (j2k _) (j2k _) (by show D.depthL _+1≤20;rw[j24];decide) (by rw[j9k];exact k)
theorem j5o {ns:List Int}{i:Nat}{x:V} (h:(ns.map V.int)[i]?=some x):∃ n,ns[i]?=some n∧x=.int n:=by
 rw[List.getElem?_map] at h
 cases e:ns[i]? with
 | none=>rw[e] at h;cases h
 | some n=>rw[e] at h;cases h;exact⟨n,rfl,rfl⟩
theorem j21 {ns:List Int}{k:Int} (h0:0≤k) (h1:k < ns.length):atI (ns.map V.int) k=some (.int (ns.getD k.toNat 0)):=by
 refine j32 h0 ?_
 rw[List.getElem?_map,List.getElem?_eq_getElem (by omega),List.getD_eq_getElem?_getD,List.getElem?_eq_getElem (by omega)]
 rfl
theorem j88 {a b c:List Int} (h1:a.Perm c) (h2:b.Perm c) (s1:a.Pairwise (·≤·)) (s2:b.Pairwise (·≤·)):a=b :=
 List.Perm.eq_of_pairwise (fun x y _ _ h1 h2=>Int.le_antisymm h1 h2) s1 s2 (h1.trans h2.symm)
section
variable {X:Cx}
def IsMin (m:Int) (ns:List Int):Prop:=m∈ns∧∀ x∈ns,m≤x
theorem IsMin.uniq {a b:Int}{ns:List Int} (h1:IsMin a ns) (h2:IsMin b ns):a=b:=by
 have:=h1.2 b h2.1
 have:=h2.2 a h1.1
 omega
def mn:List Int→Int
 | []=>0
 | [x]=>x
 | x :: y :: r=>min x (mn (y :: r))
theorem jcl:∀ {ns:List Int},ns≠[]→IsMin (mn ns) ns
 | [],h=>(h rfl).elim
 | [x],_=>⟨List.mem_singleton.mpr rfl,fun y hy=>by rw[List.mem_singleton.mp hy];exact Int.le_refl _⟩
 | x :: y :: r,_=>by
  obtain⟨h1,h2⟩:=jcl (ns:=y :: r) (by simp)
  show min x (mn (y :: r))∈x :: y :: r∧∀ z∈x :: y :: r,min x (mn (y :: r))≤z
  refine⟨?_,fun z hz=>?_⟩
  ·by_cases c:x≤mn (y :: r)
   ·rw[Int.min_eq_left c];exact List.mem_cons_self
   ·rw[Int.min_eq_right (by omega)];exact List.mem_cons_of_mem _ h1
  ·rcases List.mem_cons.mp hz with rfl | hz
   ·exact Int.min_le_left _ _
   ·exact Int.le_trans (Int.min_le_right _ _) (h2 z hz)
def rMin1 (K:PySem.W.Frag):List V→Hp→VK→Prop:=fun xs H Q=>∃ (p:Addr) (ns:List Int),xs=[.ref p]∧SqL K H p (ns.map V.int)∧ns≠[]∧∀ m,IsMin m ns→Q (.int m) H
theorem cMin1 (hc:X.calm=true):CallR X (.builtin "min") (rMin1 X.K):=by
 intro pins s σ H xs us Q I r h
 obtain⟨p,ns,rfl,hq,hne,q⟩:=h
 obtain⟨u,rfl,rx⟩:=j8y r
 cases rx
 obtain⟨its,r',pl,hz⟩:=I.list hq
 have hi:IntsAre its ns:=j2g r'
 obtain⟨ys,e⟩:=hi.allInts.items
 have e2:numsOf its=ns:=hi.numsOf
 have e3:=nums_intItems (xs:=ys)
 rw[← e] at e3
 have e4:ys.toList.map (·.1)=ns:=by rw[← e3];exact e2
 have hy:ys.size=ns.length:=by rw[← e4];simp
 have h0:0 < ns.length:=List.length_pos_iff.mpr hne
 refine min_intList (I.ok.hd hc) (xs:=ys) (by rw[← e];exact pl.isList) (by omega) fun v h' tk hv hk=>?_
 obtain⟨t,rfl⟩:=intItems_at hv
 obtain⟨b1,b2⟩:=argBest_lt (numAt ys) (ys.size-1)
 generalize argBest (fun i j=>decide (numAt ys i < numAt ys j)) (ys.size-1)=b at *
 have at_:∀ j,numAt ys j=ns.getD j 0:=fun j=>by rw[numAt_eq,e4]
 refine⟨.int (numAt ys b),H,I.kept hk,⟨t,rfl⟩,q _ ⟨?_,fun x hx=>?_⟩⟩
 ·have hb:b < ns.length:=by omega
  rw[at_,List.getD_eq_getElem?_getD,List.getElem?_eq_getElem hb]
  exact List.getElem_mem hb
 ·obtain⟨j,hj,rfl⟩:=List.getElem_of_mem hx
  have:=b2 j (by omega)
  rw[at_ j,List.getD_eq_getElem?_getD,List.getElem?_eq_getElem hj] at this
  exact this
def jeh:V→List V→Hp→VK→Prop:=fun x vs H Q=>∃ (l:Addr) (ns:List Int) (k:Int),x=.ref l∧vs=[.int k]∧H l=some (.lst (ns.map V.int))∧k∈ns∧ns.length≤1000000∧Q (.int (ns.idxOf k)) H
theorem jcm:MtM X "list.index" jeh:=by
 intro pins s σ H x vs v us Q I rx rv h
 obtain⟨l,ns,k,rfl,rfl,hH,hk,hz,q⟩:=h
 cases rx
 obtain⟨u,rfl,ru⟩:=rv.one
 obtain⟨t,rfl⟩:=ru
 obtain⟨z,its,n,r,hl,e⟩:=I.lstM hH
 have hi:IntsAre its ns:=j2g r
 have hn:=hi.length
 have hj:ns.idxOf k < ns.length:=List.idxOf_lt_length_iff.mpr hk
 have hs:its.toArray.size=ns.length:=by rw[List.size_toArray,hn]
 refine call_meets F.slot_list_index ⟨_,e,rfl⟩ F.entry_list_index (F.args_list_index_2 _ _) (SeqAt.list_indexAt l its.toArray n none #[] (.int k t) (isInt k) (ns.idxOf k) (by omega) (by omega) ?a ?b) ⟨e,?c,?d⟩
 case a =>
  refine (isInt_at k hi _ (by omega) hj).trans ?_
  rw[List.getElem_idxOf hj]
  exact beq_self_eq_true k
 case b =>
  intro j h1 h2
  refine (isInt_at k hi j (by rw[hn];omega) (by omega)).trans ?_
  exact List.not_of_lt_findIdx h2
 case c =>
  intro y hy
  exact (eq_isInt k t hi y (by simpa using hy)).at _ _
 case d=>exact⟨.int (ns.idxOf k:Nat),H,I.tok _,⟨_,rfl⟩,q⟩
end
structure FunD (K:PySem.W.Frag) (x qual:Str) (st:Stmt) (f:Addr) (fd:FuncData) (ds:List Value):Prop where
 ex:∃ (oc:Value) (od:Option Addr) (T:Addr) (kV doc pm:Value) (an:Option Addr) (cdv ct:Value) (osl:Array (Option Value)) (tc:Value) (td:Option Addr) (tn:Nat) (tsl:Array (Option Value)),
  fd=PySem.W.fnOf x qual (j2h st) (j20 st) (j06 st) (.ref T) kV doc pm an cdv ct∧K.lookup f=some ⟨oc,od,.func fd,osl⟩∧PySem.W.codeIn K cdv qual=true∧K.lookup T=some ⟨tc,td,.seq ds.toArray tn,tsl⟩
 kp:PySem.W.keepIn K (.ref f)=true
section
variable {P:Program}{w:World}{K:PySem.W.Frag}{mg:Str→Option Value}{base:Heap}{ds:List Value}
theorem FunD.okU {x qual:Str}{st:Stmt}{f:Addr}{fd:FuncData}{N ps:List Str}{k:Nat}{sp:Sp} (F:FunD K x qual st f fd ds) (S:FnScope N ps (j06 st)) (len:∀ vs H Q E,sp vs H Q E→vs.length=ps.length)
  (hbody:∀ (cdv:Value) (A:Around) (outer:List Env) (s:Shared) (H:Hp) (vs:List V) (Q:VK) (E:XK),Room k (A.deeper (envOfC qual (j06 st) s.heap.objs.size f cdv))→sp vs H Q E →
   ∃ t,PSs (cxOf (CXU P w) P w K mg base N qual (j06 st) f cdv A outer s H E).nox (j20 st) t∧t { nx:=fun _ H'=>Q .non H',rt:=Q } (start N vs) H):FnOk P w K mg base (CXU P w) (k+1) f fd ps sp:=by
 obtain⟨oc,od,T,kV,doc,pm,an,cdv,ct,osl,tc,td,tn,tsl,rfl,lk,hcd,_⟩:=F.ex
 refine fn_of lk hcd S len fun A outer s H vs Q E hr hsp=>?_
 obtain⟨t,h,q⟩:=hbody cdv A outer s H vs Q E hr hsp
 exact⟨t,h.nox,q⟩
theorem FunD.binds {x qual:Str}{st:Stmt}{f:Addr}{fd:FuncData}{ps:List Str}{es:List Value} (F:FunD K x qual st f fd ds)
  (h:∀ (T:Addr) (kV doc pm:Value) (an:Option Addr) (cdv ct:Value) (us:List Value),(us++es).length=ps.length→∃ k:Option (Array Value)→Sem (List (Str × Value)),bindArgs (PySem.W.fnOf x qual (j2h st) (j20 st) (j06 st) (.ref T) kV doc pm an cdv ct) ⟨us,[]⟩=(seqItems? (.ref T) >>= k)∧k (some ds.toArray)=pure (ps.zip (us++es))):Binds K fd ps es:=by
 obtain⟨oc,od,T,kV,doc,pm,an,cdv,ct,osl,tc,td,tn,tsl,rfl,lk,hcd,hT⟩:=F.ex
 intro s us KX hl
 obtain⟨k,h1,h2⟩:=h T kV doc pm an cdv ct us hl
 exact PySem.W.binds_K (T:=T) KX rfl hT rfl h1 h2
theorem funD_mk {x qual:Str}{st:Stmt}{f T:Addr}{oc tc:Value}{od an td:Option Addr}{osl tsl:Array (Option Value)}{tn:Nat}{kV doc pm cdv ct:Value} (l:K.lookup f=some ⟨oc,od,.func (PySem.W.fnOf x qual (j2h st) (j20 st) (j06 st) (.ref T) kV doc pm an cdv ct),osl⟩)
  (c:PySem.W.codeIn K cdv qual=true) (k:PySem.W.keepIn K (.ref f)=true) (t:K.lookup T=some ⟨tc,td,.seq ds.toArray tn,tsl⟩):FunD K x qual st f (PySem.W.fnOf x qual (j2h st) (j20 st) (j06 st) (.ref T) kV doc pm an cdv ct) ds :=
 ⟨⟨oc,od,T,kV,doc,pm,an,cdv,ct,osl,tc,td,tn,tsl,rfl,l,c,t⟩,k⟩
end
structure IsC (K:PySem.W.Frag) (C B:Addr):Prop where
 ha:PySem.W.findIn K (.ref C) "__class__"=some (some (.builtin "object.__class__"))
 hn:PySem.W.specialIn K (.builtin "object.__class__") "__get__"=some (some (.builtin "getset_descriptor.__get__"))
 htk:PySem.W.takesIn K (.builtin "object.__class__")=some true
 hm:PySem.W.mroIn K C (.type "object")=some true
 ki:PySem.W.kitOne K (.ref C) (.ref B)=some true
section
variable {K:PySem.W.Frag}{σ:St}{H:Hp}{Q:VK}{D:Ends}
theorem j2e {p C B dx:Addr}{fs:List (Str × V)} (h:H p=some (.ins C dx fs)) (cl:Cls K C) (i:IsC K C B) (q:Q (.bl true) H):jc9 K [.ref p,.ref B] H Q:=⟨.ref p,_,true,.inr ⟨B,rfl,i.ki⟩,.ins h cl i.ha i.hn i.htk i.hm,q⟩
theorem jei {p:Addr}{ns:List Int} (h:H p=some (.lst (ns.map V.int))) (hne:ns≠[]) (q:Q (.int (mn ns)) H):rMin1 K [.ref p] H Q:=⟨p,ns,rfl,SqL.of h,hne,fun m hm=>by rw[hm.uniq (jcl hne)];exact q⟩
theorem jej {p:Addr}{ns:List Int}{k:Int} (h:H p=some (.lst (ns.map V.int))) (hk:k∈ns) (hz:ns.length≤1000000) (q:Q (.int (ns.idxOf k)) H):jeh (.ref p) [.int k] H Q:=⟨p,ns,k,rfl,rfl,h,hk,hz,q⟩
end
theorem j7r {α:Type}{src:α→V}{l:List α}{i:Nat}{x:V} (h:(l.map src)[i]?=some x):∃ y,l[i]?=some y∧x=src y:=by
 rw[List.getElem?_map] at h
 cases e:l[i]? with
 | none=>rw[e] at h;cases h
 | some n=>rw[e] at h;cases h;exact⟨n,rfl,rfl⟩
section
variable {K:PySem.W.Frag}{α β γ:Type}{te:TE}{acc:Addr}{fr:St}{H1:Hp}{R:Hp→Prop}
theorem jau (src:α→V) (mk:β→V) (f:α→β) {a:Addr}{u:Option V}{l:List α} (hx:SqL K H1 a (l.map src)) (hz:l.length≤1000000) (hn:H1 acc=none)
  (turn:∀ (i:Nat) x H (Y:V→Hp→Prop),l[i]?=some x→Ext H1 H→(∀ H',Ext H H'→Y (mk (f x)) H')→te (some (src x) :: fr) H Y)
  (fin:∀ H,Ext H1 H→H acc=some (.lst ((l.map f).map mk))→R H):j6k (Itl K a) (j68 0) [] te acc (u :: fr) H1 R:=by
 refine j7m hx (by rw[List.length_map];exact hz) hn (fun j ys _=>ys=((l.take j).map f).map mk) (by simp) (fun _ _ _ _ _ h=>h) (fun j ys H _ h=>by rw[h];simp;omega) ?_ ?_
 ·intro j y ys H hy e h Y N hY hN
  obtain⟨y,ey,rfl⟩:=j7r hy
  refine j2a (turn j y H Y ey e fun H' e'=>hY _ _ e' ?_)
  rw[List.take_add_one,ey,h]
  simp
 ·intro ys H e ha h
  refine fin H e ?_
  rw[ha,h,List.length_map,List.take_of_length_le (Nat.le_refl _)]
theorem j55 (src:α→V) (mk:β→V) (f:α→β) {a:Addr}{u:Option V}{l:List α} (hx:SqT K H1 a (l.map src)) (hz:l.length≤1000000) (hn:H1 acc=none)
  (turn:∀ (i:Nat) x H (Y:V→Hp→Prop),l[i]?=some x→Ext H1 H→(∀ H',Ext H H'→Y (mk (f x)) H')→te (some (src x) :: fr) H Y)
  (fin:∀ H,Ext H1 H→H acc=some (.lst ((l.map f).map mk))→R H):j6k (Itt K a) (j68 0) [] te acc (u :: fr) H1 R:=by
 refine j29 hx (by rw[List.length_map];exact hz) hn (fun j ys _=>ys=((l.take j).map f).map mk) (by simp) (fun _ _ _ _ _ h=>h) (fun j ys H _ h=>by rw[h];simp;omega) ?_ ?_
 ·intro j y ys H hy e h Y N hY hN
  obtain⟨y,ey,rfl⟩:=j7r hy
  refine j2a (turn j y H Y ey e fun H' e'=>hY _ _ e' ?_)
  rw[List.take_add_one,ey,h]
  simp
 ·intro ys H e ha h
  refine fin H e ?_
  rw[ha,h,List.length_map,List.take_of_length_le (Nat.le_refl _)]
theorem j7s (mk:β→V) (f:Nat→β) {n:Nat}{u:Option V} (hz:n≤1000000) (hn:H1 acc=none)
  (turn:∀ (i:Nat) H (Y:V→Hp→Prop),i < n→Ext H1 H→(∀ H',Ext H H'→Y (mk (f i)) H')→te (some (.int (i:Nat)) :: fr) H Y)
  (fin:∀ H,Ext H1 H→H acc=some (.lst (((List.range n).map f).map mk))→R H):j6k (Itr 0 n) (j68 0) [] te acc (u :: fr) H1 R:=by
 refine j2j hz hn (fun j ys _=>ys=((List.range j).map f).map mk) rfl (fun _ _ _ _ _ h=>h) (fun j ys H _ h=>by rw[h];simp) ?_ ?_
 ·intro j ys H hj e h Y N hY hN
  rw[show ((0:Int)+(j:Nat))=(j:Nat) by omega]
  refine j2a (turn j H Y hj e fun H' e'=>hY _ _ e' ?_)
  rw[List.range_succ,h]
  simp
 ·intro ys H e ha h
  refine fin H e ?_
  rw[ha,h]
theorem jav (src:α→V) (sr2:γ→V) (mk:β→V) (f:α→γ→β) {p q:Addr}{c d:Bool}{u v:Option V}{l:List α}{m:List γ} (hx:SqE K H1 p (l.map src) c) (hy:SqE K H1 q (m.map sr2) d) (hl:l.length=m.length) (hz:l.length≤1000000) (hn:H1 acc=none)
  (turn:∀ (i:Nat) x y H (Y:V→Hp→Prop),l[i]?=some x→m[i]?=some y→Ext H1 H→(∀ H',Ext H H'→Y (mk (f x y)) H')→te (some (src x) :: some (sr2 y) :: fr) H Y)
  (fin:∀ H,Ext H1 H→H acc=some (.lst ((List.zipWith f l m).map mk))→R H):j6k (Itz2 K c d p q) (gTup K 2 (jd4 (j68 0) (jd4 (j68 1) gNil))) [] te acc (u :: v :: fr) H1 R:=by
 refine j7o hx hy (by simpa using hl) (by rw[List.length_map];exact hz) hn (fun j ys _=>ys=((List.zipWith f l m).take j).map mk) (by simp) (fun _ _ _ _ _ h=>h) (fun j ys H _ h=>by rw[h];simp;omega) ?_ ?_
 ·intro j x y ys H H' hx' hy' e e' h Y N hY hN
  obtain⟨x,ex,rfl⟩:=j7r hx'
  obtain⟨y,ey,rfl⟩:=j7r hy'
  refine j2a (turn j x y H' Y ex ey (e.tr e') fun H2 e2=>hY _ _ (e'.tr e2) ?_)
  rw[List.take_add_one,List.getElem?_zipWith,ex,ey,h]
  simp
 ·intro ys H e ha h
  refine fin H e ?_
  rw[ha,h,List.length_map,List.take_of_length_le (by rw[List.length_zipWith];omega)]
theorem j5p (P:Int→Prop) {n:Nat}{u:Option V} (hz:n≤1000000) (hn:H1 acc=none)
  (turn:∀ (i:Nat) H (Y:V→Hp→Prop),i < n→Ext H1 H→(∀ x H',P x→Ext H H'→Y (.int x) H')→te (some (.int (i:Nat)) :: fr) H Y)
  (fin:∀ (xs:List Int) H,xs.length=n→(∀ x∈xs,P x)→Ext H1 H→H acc=some (.lst (xs.map V.int))→R H):j6k (Itr 0 n) (j68 0) [] te acc (u :: fr) H1 R:=by
 refine j2j hz hn (fun j ys _=>∃ xs:List Int,ys=xs.map V.int∧xs.length=j∧∀ x∈xs,P x) ⟨[],rfl,rfl,by simp⟩ (fun _ _ _ _ _ h=>h) (fun j ys H _ ⟨xs,h,l,_⟩=>by rw[h,List.length_map];omega) ?_ ?_
 ·rintro j ys H hj e ⟨xs,rfl,hl,hp⟩ Y N hY hN
  rw[show ((0:Int)+(j:Nat))=(j:Nat) by omega]
  refine j2a (turn j H Y hj e fun x H' hx e'=>hY _ _ e' ⟨xs++[x],by simp,by simp[hl],fun y hy=>?_⟩)
  rcases List.mem_append.mp hy with z | z
  ·exact hp y z
  ·rw[List.mem_singleton.mp z];exact hx
 ·rintro ys H e ha ⟨xs,rfl,hl,hp⟩
  exact fin xs H hl hp e ha
end
section
variable {X:Cx}
open Classical in
theorem op_neD {k:Nat} (hr:Room k X.A):OpR X (compareOp .NotEq) (rEqD true):=by
 intro pins s σ H x y v u Q I rx ry h
 obtain⟨a,b,ha,hb,oa,ob,hd,q⟩:=h
 obtain⟨as,r1⟩:=j3m I a ha rx oa
 obtain⟨bs,r2⟩:=j3m I b hb ry ob
 have h1:=D.pyDepth a
 exact SeqAt.compareNe_reads r1 r2 (D.canLay a oa) (D.canLay b ob) (by have:=hr.units;omega) ⟨.bl (!eqD a b),H,I,rfl,q⟩
theorem oNe {k:Nat} (hr:Room k X.A):OpR X (compareOp .NotEq) rNeU:=jd5.or (op_neD hr)
end
section
variable {K:PySem.W.Frag}{σ:St}{H:Hp}{Q:VK}
theorem jek {i j:Str} (q:Q (.bl (!decide (i=j))) H):rNeU (.str i) (.str j) H Q:=.inl ⟨rfl,by
 rw[show decide (V.str i=V.str j)=decide (i=j) from decide_eq_decide.mpr ⟨fun z=>by cases z;rfl,fun z=>by rw[z]⟩];exact q⟩
end
section
variable {X:Cx}{pins:List (Addr × Obj)}{σ:St}{H:Hp}{s:Shared}{h':Heap}{n:Nat}
open Classical in
end
def XP (X:Cx) (pins:List (Addr × Obj)) (σ:St) (E:XK) (e:Value) (s:Shared):Prop :=
 ∃ n H a C dx,e=.ref a∧X.s₀.heap.objs.size≤n∧(∀ p∈X.pn++pins,p.1 < n)∧Inv X pins σ H s∧Err n H s.heap a C dx .none∧E C dx H
structure Catch (K:PySem.W.Frag) (C L:Addr):Prop where
 ex:∃ bm bl,ErrC K C bm∧ErrC K L bl∧(Value.ref C :: bm).contains (.ref L)=true
open PySem.Builtin PySem.Builtin.ObjectAttr
structure ErrI (K:PySem.W.Frag) (C:Addr):Prop where
 at_:∃ nm q N bs bm sn sub ab col dd k0 k1 k2 k3 k5 newId,K.lookup C=some (excClassObj nm q C N bs bm true sn sub ab col dd k0 k1 k2 k3 k5 newId)∧bm.contains (.type "BaseException")=true
 ga:PySem.W.findIn K (.ref C) "__getattribute__"=some (some (.builtin "BaseException.__getattribute__"))
 gh:PySem.W.findIn K (.ref C) "__getattr__"=some none
 ca:PySem.W.findIn K (.ref C) "__class__"=some (some (.builtin "object.__class__"))
 cn:PySem.W.specialIn K (.builtin "object.__class__") "__get__"=some (some (.builtin "getset_descriptor.__get__"))
 ct:PySem.W.takesIn K (.builtin "object.__class__")=some true
 cm:PySem.W.mroIn K C (.type "object")=some true
structure ErrK (K:PySem.W.Frag) (C:Addr) (bm:List Value) (f:Addr):Prop where
 lk:∃ nm q N bs sn sub ab col dd k0 k1 k2 k3 k5,K.lookup C=some (excClassObj nm q C N bs bm true sn sub ab col dd k0 k1 k2 k3 k5 "ValueError.__new__")
 init:PySem.W.findIn K (.ref C) "__init__"=some (some (.ref f))
 fn:PySem.W.isFn K (.ref f)=true
 kp:PySem.W.keepIn K (.ref C)=true
 set:PySem.W.findIn K (.ref C) "__setattr__"=some (some (.builtin "object.__setattr__"))
 row:PySem.W.findIn K (.ref C) "row"=some none
 ga:PySem.W.findIn K (.ref C) "__getattribute__"=some (some (.builtin "BaseException.__getattribute__"))
 gh:PySem.W.findIn K (.ref C) "__getattr__"=some none
 ca:PySem.W.findIn K (.ref C) "__class__"=some (some (.builtin "object.__class__"))
 cn:PySem.W.specialIn K (.builtin "object.__class__") "__get__"=some (some (.builtin "getset_descriptor.__get__"))
 ct:PySem.W.takesIn K (.builtin "object.__class__")=some true
 cm:PySem.W.mroIn K C (.type "object")=some true
theorem iteTc {c:Bool}{A B:Prop} (h:c=true) (q:A):if c=true then A else B:=by rw[h];exact iteT q
theorem iteFc {c:Bool}{A B:Prop} (h:c=false) (q:B):if c=true then A else B:=by rw[h];exact iteF q
structure RoomW (k:Nat) (A:Around):Prop where
 dp:A.depth+3 * k+5 < recursionLimit
 un:A.units+16 * k+200 < cLine
structure FnOkW (P:Program) (w:World) (K:PySem.W.Frag) (mg:Str→Option Value) (base:Heap) (CX:CXT) (k:Nat) (f:Addr) (fd:FuncData) (ps:List Str) (sp:Sp):Prop where
 len:∀ vs H Q E,sp vs H Q E→vs.length=ps.length
 run:∀ (A:Around) (outer:List Env) (s:Shared) (H:Hp) (args:Args) (us:List Value) (vs:List V) (Q:VK) (E:XK),RoomW k A→Env0 P w K mg base A outer s H→BindsTo s fd args (ps.zip us)→Vals vs us→sp vs H Q E →
  codeAny (model P w) A (.call (.ref f) args) (CR CX outer P w H s Q E) s
def mulS (x:Str) (n:Nat):Str:=⟨((List.replicate n x.cps.toList).flatten).toArray⟩
theorem foldA (its:List Nat):∀ (k:Nat) (acc:List Nat),List.foldl (fun x1 x2=>x1++x2) acc.toArray (List.replicate k its.toArray)=(acc++(List.replicate k its).flatten).toArray
 | 0,acc=>by simp
 | k+1,acc=>by
  rw[List.replicate_succ,List.foldl_cons,show acc.toArray++its.toArray=(acc++its).toArray by simp,foldA its k (acc++its),List.replicate_succ,List.flatten_cons,List.append_assoc]
theorem jel (x:Str) (n:Nat):Txt.mul x n=mulS x n:=by
 unfold Txt.mul mulS
 by_cases h1:(n:Int) < 1
 ·have:n=0:=by omega
  subst this
  rfl
 ·rw[if_neg h1]
  by_cases h2:((n:Int) == 1 || x.length == 0)=true
  ·rw[if_pos h2]
   rw[Bool.or_eq_true,beq_iff_eq,beq_iff_eq] at h2
   rcases h2 with h2 | h2
   ·have:n=1:=by omega
    subst this
    simp
   ·have e:x.cps.toList=[]:=by
     have:x.cps.toList.length=0:=h2
     exact List.length_eq_zero_iff.mp this
    have e2:x.cps=#[]:=by rw[← Array.toArray_toList (xs:=x.cps),e]
    rw[e]
    have:(List.replicate n ([]:List Nat)).flatten=[]:=by simp
    rw[this,← e2]
  ·rw[if_neg h2,Int.toNat_natCast]
   have:=foldA x.cps.toList n []
   simp only[Array.toArray_toList,List.nil_append] at this
   rw[← this]
section
variable {X:Cx}
def rAddS:R2:=fun x y H Q=>∃ i j,x=.str i∧y=.str j∧i.length+j.length≤sizeLine∧Q (.str (i++j)) H
def jem (K:PySem.W.Frag):R2:=fun x y H Q=>jea K x y H Q∨rAddS x y H Q
theorem j1a:OpR X (binaryOp .Add) (jem X.K):=oAddV.or j8x
def rMulS:R2:=fun x y H Q=>∃ (i:Str) (k:Int),x=.str i∧y=.int k∧0≤k∧k≤1000∧i.length≤1000∧Q (.str (mulS i k.toNat)) H
theorem jen:OpR X (binaryOp .Mult) rMulS:=by
 intro pins s σ H x y v u Q I rx ry h
 obtain⟨i,k,rfl,rfl,k0,k1,hl,q⟩:=h
 obtain⟨t,rfl⟩:=rx
 obtain⟨t',rfl⟩:=ry
 obtain⟨n,rfl⟩:∃ n:Nat,k=n:=⟨k.toNat,by omega⟩
 rw[Int.toNat_natCast] at q
 refine SB.mul ⟨?_,fun h1 _=>?_,fun _ _=>?_⟩ fun t2 tk=>⟨.str (mulS i n),H,I.tok _,⟨t2,by rw[jel]⟩,q⟩
 ·rw[Bool.or_eq_false_iff,decide_eq_false_iff_not,decide_eq_false_iff_not];omega
 ·have h3:(i.length:Int) * n≤1000000:=by
   have:i.length * n≤1000 * 1000:=Nat.mul_le_mul hl (by omega)
   have:=Int.ofNat_le.mpr this
   rw[Int.natCast_mul] at this
   omega
  have h4:(i.length:Int)≤(2 ^ 63-1) / n:=Int.le_ediv_of_mul_le (by omega) (by omega)
  omega
 ·rw[Int.toNat_natCast]
  unfold Builtin.Str.tooLong
  have:i.length * n≤1000 * 1000:=Nat.mul_le_mul hl (by omega)
  rw[decide_eq_false_iff_not,sizeLine_eq]
  omega
def rMulW:R2:=fun x y H Q=>rI CMulB (fun i j=>.int (i * j)) x y H Q∨rMulS x y H Q
theorem j5q:OpR X (binaryOp .Mult) rMulW:=jdn.or jen
def rLeS:R2:=fun x y H Q=>∃ i j,x=.str i∧y=.str j∧Q (.bl (!decide (j.cps.toList < i.cps.toList))) H
theorem op_leS:OpR X (compareOp .LtE) rLeS:=by
 intro pins s σ H x y v u Q I rx ry h
 obtain⟨i,j,rfl,rfl,q⟩:=h
 obtain⟨t,rfl⟩:=rx
 obtain⟨t',rfl⟩:=ry
 exact PySem.P.le_str ⟨.bl _,H,I,rfl,q⟩
def rLeW:R2:=fun x y H Q=>rI0 (fun i j=>.bl (decide (i≤j))) x y H Q∨rLeS x y H Q
theorem oLeW:OpR X (compareOp .LtE) rLeW:=op_le.or op_leS
def jeo (K:PySem.W.Frag):List V→Hp→VK→Prop:=fun xs H Q=>rLen K xs H Q∨∃ z:Str,xs=[.str z]∧z.length≤sizeLine∧Q (.int z.length) H
theorem j1w:CallR X (.builtin "len") (jeo X.K):=cLen.or j6g
end
def AscS (x:Str):Prop:=x.cps.all (· < 128)=true
def Its (x:Str):It:=⟨fun i _=>i < x.cps.size,fun i H v H'=>H'=H∧∃ c,x.cps[i]?=some c∧v=.str ⟨#[c]⟩,fun i _=>x.cps.size≤i⟩
theorem jcn {P:Program}{w:World}{K:PySem.W.Frag}{tg:Expr} (x:Str) (t:Tok) (it:Addr):Turn P w K tg (Its x) [it] it (fun i h=>h.IsStrIter it "str_ascii_iterator" x t i) where
 mem:=List.mem_singleton.mpr rfl
 obj:=fun i h st b hb=>by
  cases List.mem_singleton.mp hb
  obtain⟨o,e,c,d⟩:=st
  exact⟨o,e,fun v z=>by rw[d] at z;cases z⟩
 keep:=fun i h h' st k=>let ⟨o,e,r⟩:=st;⟨o,k it (List.mem_singleton.mpr rfl) o e,r⟩
 item:=by
  intro X hP hw hK hc i pins s σ H E I hf st hg
  subst hP hw hK
  have hx:x.cps[i]?=some (x.cps[i]'hg):=Array.getElem?_eq_getElem hg
  obtain⟨f0,f1,f2,f3,f4,f5⟩:=hf it (List.mem_singleton.mpr rfl)
  refine wpAny_pyNext_ascii_item st hx fun h' st' sb=>?_
  have I1:Inv X pins σ H { s with heap:=h',toks:=s.toks+1 }:=I.turned (t':=s.toks+1) (fun b o hb e=>(sb.2 b hb).trans e) f0 f1 f3 f4 f5
  obtain⟨o,e,c,d⟩:=id st'
  exact⟨_,rfl,jfc (s:={ s with heap:=h',toks:=s.toks+1 }) e c d (by decide) ⟨.str ⟨#[x.cps[i]'hg]⟩,H,I1,⟨_,rfl⟩,⟨rfl,_,hx,rfl⟩,st',fun b hb=>(hf b hb).1⟩⟩
 done:=by
  intro X hP hw hK hc i pins s σ H E I hf st hg
  subst hP hw hK
  obtain⟨f0,f1,f2,f3,f4,f5⟩:=hf it (List.mem_singleton.mpr rfl)
  exact wpAny_pyNext_ascii_end (I.ok.hd hc) st (Array.getElem?_eq_none hg) fun h' eb=>⟨rfl,I.turned (t':=s.toks) (fun b o hb e=>eb b o hb e) f0 f1 f3 f4 f5⟩
 self:=fun _ _ _ _ _ st h=>wpAny_pyIter_striter_ascii st h
section
variable {X:Cx}{tg:Expr}
def iStr (tl:TE):TI:=fun σ H R=>tl σ H fun x H1=>∃ z,x=.str z∧AscS z∧R (Its z) H1
theorem pi_str {l:Expr}{tl:TE} (hl:PE X l tl):PI X tg l (iStr tl):=by
 intro pins s σ H R I h
 refine thn (hl pins s σ H _ I h) fun v s1 ⟨x,H1,I1,r1,q1⟩=>?_
 obtain⟨z,e,ha,q⟩:=q1
 subst e
 obtain⟨t,rfl⟩:=r1
 refine wpAny_pyIter_ascii ha ?_
 refine⟨s1.heap.objs.size,[s1.heap.objs.size],_,_,H1,rfl,I1.kept (t':=s1.toks) fun b o e=>Heap.get?_push_of_some _ e,jcn z t _,⟨_,Heap.get?_push_size _ rfl,rfl,rfl⟩,fun b hb=>?_,q⟩
 cases List.mem_singleton.mp hb
 exact I1.fpOk (Nat.le_refl _) (I1.hok.fresh (Nat.le_refl _))
end
section
variable {K:PySem.W.Frag}{ts:List TT}{te:TE}{acc:Addr}{fr:St}{H1:Hp}{R:Hp→Prop}
theorem jco {β:Type} (mk:β→V) (f:Nat→β) {x:Str}{u:Option V} (hz:x.cps.size≤1000000) (hn:H1 acc=none)
  (turn:∀ (i c:Nat) H (Y:V→Hp→Prop),x.cps[i]?=some c→Ext H1 H→(∀ H',Ext H H'→Y (mk (f c)) H')→te (some (.str ⟨#[c]⟩) :: fr) H Y)
  (fin:∀ H,Ext H1 H→H acc=some (.lst ((x.cps.toList.map f).map mk))→R H):j6k (Its x) (j68 0) [] te acc (u :: fr) H1 R:=by
 refine j3k x.cps.size hz hn (fun σ=>∃ u,σ=u :: fr) (fun j ys _=>ys=((x.cps.toList.take j).map f).map mk) ⟨u,rfl⟩ (by simp) (fun _ _ _ _ _ h=>h) (fun i H hi e=>hi) (fun H e=>Nat.le_refl _) (fun i ys H _ h=>by rw[h];simp;omega) ?_ ?_
 ·rintro i σ ys H v H' G hi e ⟨u,rfl⟩ pv ⟨rfl,c,hc,rfl⟩ hG
  refine hG _ _ ⟨_,rfl⟩ ?_
  intro Y N hY hN
  refine j2a (turn i c _ _ hc e fun H2 e2=>hY _ H2 e2 ?_)
  have hc':x.cps.toList[i]?=some c:=by rw[Array.getElem?_toList];exact hc
  rw[pv,List.take_add_one,hc']
  simp
 ·intro ys H e ha pv
  subst pv
  refine fin H e ?_
  rw[ha,List.take_of_length_le (by rw[Array.length_toList];exact Nat.le_refl _)]
end
def putS (l:List Str) (x:Str):List Str:=if x∈l then l else l++[x]
def metS (ss:List Str):List Str:=ss.foldl putS []
theorem j2l (ss:List Str) (x:Str):metS (ss++[x])=putS (metS ss) x:=by unfold metS;rw[List.foldl_append];rfl
theorem j6n (l:List Str) (x:Str):(putS l x).length=if x∈l then l.length else l.length+1:=by unfold putS;split <;> simp
theorem j9l (l:List Str) (x y:Str):y∈putS l x↔y∈l∨y=x:=by
 unfold putS
 split
 ·rename_i h
  exact⟨.inl,fun z=>z.elim id (fun e=>by rw[e];exact h)⟩
 ·simp
theorem j9m {P:List Str→Prop} (h0:P []) (h1:∀ l x,P l→P (l++[x])) (l:List Str):P l:=by
 have k:∀ m:List Str,P m.reverse:=fun m=>by
  induction m with
  | nil=>exact h0
  | cons a r ih=>rw[List.reverse_cons];exact h1 _ _ ih
 have:=k l.reverse
 rwa [List.reverse_reverse] at this
theorem jbl (ss:List Str):(metS ss).length≤ss.length:=by
 induction ss using j9m with
 | h0=>exact Nat.le_refl _
 | h1 l x ih =>
  rw[j2l,j6n,List.length_append,List.length_singleton]
  split <;> omega
theorem jcp (ss:List Str) (y:Str):y∈metS ss↔y∈ss:=by
 induction ss using j9m with
 | h0=>exact Iff.rfl
 | h1 l x ih=>rw[j2l,j9l,ih,List.mem_append,List.mem_singleton]
theorem j9n {ss:List Str} (h:ss.Nodup):(metS ss).length=ss.length:=by
 induction ss using j9m with
 | h0=>rfl
 | h1 l x ih =>
  obtain⟨h1,h2,h3⟩:=List.nodup_append.mp h
  have nx:x∉metS l:=fun z=>h3 x ((jcp l x).mp z) x (List.mem_singleton.mpr rfl) rfl
  rw[j2l,j6n,if_neg nx,ih h1,List.length_append,List.length_singleton]
section
variable {w:World}{prog:Program}{A:Around}
variable {R:Result→Shared→Prop}{I:Addr}{fp wr:List Addr}{G:Array GenState→Array GenState→Prop}{n:Nat}{P:Nat→Value→Prop}{St:Nat→Shared→Prop}
theorem jaw (W:WalksS prog w A.in1 I fp wr G n P St) (S:Addr) (hSf:S∉fp) (ss:List Str) (hn:ss.length=n) (hval:∀ i v,P i v→∃ x t,ss[i]?=some x∧v=.str x t) (hb:n+1 < scanBound) :
  ∀ (k i:Nat) (s:Shared),n-i=k→i≤n→St i s→s.heap.SetOf (PySem.strKind prog w) S (fun x=>decide (x∈metS (ss.take i))) (metS (ss.take i)).length →
   (∀ s',Moved (S :: wr) G s s'→s'.heap.SetOf (PySem.strKind prog w) S (fun x=>decide (x∈metS ss)) (metS ss).length→R (.ok (.ret .none)) s') →
   codeAny (model prog w) A (Code.builtin "set.update.loop" ⟨[.ref S,.ref I],[]⟩) R s:=by
 skip;have hSw:S∉wr:=fun h=>hSf (W.sub _ h)
 have sub2:∀ b∈wr,b∈S :: wr:=fun b hb=>List.mem_cons_of_mem _ hb
 intro k
 induction k with
 | zero =>
  intro i s hk hi hst hS hR
  obtain rfl:i=n:=by omega
  refine codeAny_builtin PyProof.Rows.F.entry_set_update_loop ?_;rw[Around.under_plainId PyProof.Rows.F.plain_set_update_loop _]
  show wpAny _ A.in1 (pyNext (.ref I) >>= _) _ _ s;refine wpAny_bind (W.done s _ _ hst fun s' hm=>?_)
  rw[← hn,List.take_length] at hS
  refine wpAny_pure (hR s' (hm.mono sub2) ?_)
  skip;obtain⟨o,es,ep,t,ho,rest⟩:=hS
  exact⟨o,es,ep,t,hm.heap S _ hSw ho,rest⟩
 | succ k ih =>
  intro i s hk hi hst hS hR
  have hlt:i < n:=by omega
  refine codeAny_builtin PyProof.Rows.F.entry_set_update_loop ?_;rw[Around.under_plainId PyProof.Rows.F.plain_set_update_loop _]
  show wpAny _ A.in1 (pyNext (.ref I) >>= _) _ _ s;refine wpAny_bind (W.item i s _ _ hlt hst fun v s' hP hst' hm=>?_)
  obtain⟨x,t,hx,rfl⟩:=hval i v hP
  have hS':s'.heap.SetOf (PySem.strKind prog w) S (fun x=>decide (x∈metS (ss.take i))) (metS (ss.take i)).length:=by
   skip;obtain⟨o,es,ep,tb,ho,rest⟩:=hS
   skip;exact⟨o,es,ep,tb,hm.heap S _ hSw ho,rest⟩
  show wpAny _ A.in1 (holding [Value.str x t] (setAdd S (.str x t)) >>= _) _ _ s'
  refine wpAny_bind (wpAny_holding ?_);unfold setAdd;refine wpAny_holding ?_
  have hkey:(PySem.strKind prog w).is x (.str x t)=true:=by simp[PySem.strKind,Value.isStrOf]
  refine wpAny_bind ((PySem.strKind prog w).pyHash (k:=x) hkey ?_)
  have le:=jbl (ss.take i)
  rw[List.length_take] at le
  refine wpAny_setAddHashed_of (knd:=PySem.strKind prog w) hkey rfl hS' (by omega) fun h' hsb hS2=>?_
  have et:ss.take (i+1)=ss.take i++[x]:=by rw[List.take_add_one,hx];rfl
  have hSi:h'.SetOf (PySem.strKind prog w) S (fun x=>decide (x∈metS (ss.take (i+1)))) (metS (ss.take (i+1))).length:=by
   refine SetOf_congr hS2 (fun y=>?_) ?_
   ·rw[et,j2l,decide_eq_decide.mpr (j9l _ _ _),Bool.decide_or]
   ·rw[et,j2l,j6n]
    simp
  refine wpAny_pure ⟨plainId_quiet PyProof.Rows.F.plain_set_update_loop _,ih (i+1) _ (by omega) hlt (W.frame _ s' _ _ hst' (by first | exact Nat.le_succ _ | exact Nat.le_refl _) fun b hb o e=>?_) hSi fun s'' hm'' hS''=>?_⟩
  ·skip;rw[hsb.2 b (fun h:b=S=>hSf (by rw[← h];exact hb))];exact e
  ·refine hR s'' (Moved.trans W.gtrans ((hm.mono sub2).then_heap (by first | exact Nat.le_succ _ | exact Nat.le_refl _) fun b o hb e=>?_) hm'') hS''
   skip;rw[hsb.2 b (fun h:b=S=>hb (by rw[h];exact List.mem_cons_self))];exact e
end
theorem jax:isSubtype (.type "tuple") (.type "set")=pure false:=by rw[isSubtype_type];kernel_rfl
theorem j9o:isSubtype (.type "tuple") (.type "frozenset")=pure false:=by rw[isSubtype_type];kernel_rfl
abbrev newSet (led:Bool):Obj:={ cls:=.type "set",dict:=none,data:=.set #[] 0 (.fresh 0 0 led) }
section
variable {prog:Program}{w:World}{A:Around}{E:Value→Shared→Prop}{s:Shared}
set_option maxHeartbeats 8000000 in
theorem j5r {l:Addr}{items:Array Value}{ss:List Str}{Q:Value→Shared→Prop} (hh:A.handled=none) (hl:s.heap.IsTuple l items) (hi:∀ (i:Nat) (v:Value),items[i]?=some v→∃ x t,ss[i]?=some x∧v=.str x t) (hz:ss.length=items.size) (hb:items.size+1 < scanBound)
  (h:∀ (h':Heap) (tk:Nat),h'.SetOf (PySem.strKind prog w) s.heap.objs.size (fun x=>decide (x∈metS ss)) (metS ss).length→(∀ b o,b < s.heap.objs.size→s.heap.get? b=some o→h'.get? b=some o)→Q (.ref s.heap.objs.size) { s with heap:=h',toks:=tk }) :
  wpAny (model prog w) A (call (Value.type "set") [.ref l]) Q E s:=by
 obtain⟨c,tl,hmro⟩:=PySem.F.called_set.mro
 have hmade:=PySem.F.called_set.made
 have hsub:=PySem.F.called_set.sub
 refine wpAny_call (codeAny_of_tree ?_);show wpAny _ _ (callAny (.type "set") _) _ _ _;refine wpAny_pure ⟨Code.quiet_builtin _ (by decide +kernel),codeAny_builtin PySem.F.entry_type_call ?_⟩
 skip;rw[Around.under_plain (weight_type_call_type "set" [.ref l] []) rfl]
 have h1:=PySem.F.called_set.notType
 have h2:=PySem.F.called_set.canCreate
 have hct:=PySem.F.typeCall_set_1 (.ref l)
 skip;repeat (any_goals (first | assumption | wp_step))
 refine codeAny_mono (code_set_new_1 (.ref l) (E:=E) (Q₁:=fun obj s₁=>∃ led:Bool,obj=.ref s.heap.objs.size∧s₁={ s with heap:=s.heap.push (newSet led) }) fun led=>⟨led,rfl,rfl⟩) fun r s₁ hr=>?_
 cases r with
 | error e=>exact hr
 | ok fl =>
  cases fl with
  | ret obj =>
   obtain⟨led,rfl,rfl⟩:=hr
   have hS:(s.heap.push (newSet led)).get? s.heap.objs.size=some (newSet led):=Heap.get?_push_size _ rfl
   have hT:Shared.TypeIs { s with heap:=s.heap.push (newSet led) } (.ref s.heap.objs.size) "set":=⟨_,hS,rfl⟩
   have hli:=PySem.F.called_set.init.lookup
   have hbi:=PySem.F.called_set.init.bind (.ref s.heap.objs.size)
   skip;repeat (any_goals (first | assumption | wp_step))
   refine codeAny_mono (codeAny_call_builtin (R:=wants (fun r s₂=>r=.none∧∃ h' tk,s₂={ s with heap:=h',toks:=tk }∧h'.SetOf (PySem.strKind prog w) s.heap.objs.size (fun x=>decide (x∈metS ss)) (metS ss).length∧(∀ b o,b < s.heap.objs.size→s.heap.get? b=some o→h'.get? b=some o)) E) PySem.F.called_set.init.plain PySem.F.entry_set_init (check_set_init_1 hT ?_)) fun r₂ s₂ hr₂=>?_
   ·obtain⟨⟨ocls,odict,odata,oslots⟩,hol,hcl,nl,hdl⟩:=hl
    replace hcl:ocls=.type "tuple":=hcl
    replace hdl:odata=.seq items nl:=hdl
    subst hcl hdl
    have hol':(s.heap.push (newSet led)).get? l=some { cls:=.type "tuple",dict:=odict,data:=.seq items nl,slots:=oslots }:=Heap.get?_push_of_some _ hol
    have hsls:=jax
    have hslf:=j9o
    have hne:(Value.type "tuple" == Value.type "dict")=false:=by decide
    have hl1:(s.heap.push (newSet led)).IsTuple l items:=⟨_,hol',rfl,nl,rfl⟩
    unfold Builtin.«set.__init__» noKeywords Builtin.Frozenset.updateFrom;generalize hPI:pyIter=PI;wp_walk;subst hPI
    refine wpAny_pyIter_tuple hl1 (wpAny_bind (wpAny_runValue ?_))
    skip;have hlS:l < s.heap.objs.size:=Heap.lt_size hol
    have hh3:A.in1.in1.in1.handled=none:=hh
    have hneI:l≠(s.heap.push (newSet led)).objs.size:=by rw[Heap.size_push];exact Nat.ne_of_lt (Nat.lt_succ_of_lt hlS)
    have hSf:s.heap.objs.size∉[(s.heap.push (newSet led)).objs.size,l]:=by
     rw[Heap.size_push];simp only[List.mem_cons,List.mem_nil_iff,or_false,not_or]
     skip;exact⟨Nat.ne_of_lt (Nat.lt_succ_self _),Nat.ne_of_gt hlS⟩
    refine jaw ((Walks.tuple hh3 _ l hneI items).toS) s.heap.objs.size hSf ss hz hi hb (items.size-0) 0 _ (by omega) (Nat.zero_le _) ⟨⟨_,Heap.get?_push_size _ rfl,rfl,rfl⟩,⟨_,Heap.get?_push_of_some _ hol',rfl,nl,rfl⟩⟩ ?hS0 ?hR
    case hS0 =>
     exact SetOf_congr ((setObjOf_fresh (knd:=PySem.strKind prog w) led).setOf (Heap.get?_push_of_some _ hS) (by unfold scanBound;omega)) (fun _=>rfl) rfl
    case hR =>
     intro s' hm hS'
     obtain⟨h',g',d',t',o'⟩:=s'
     skip;have eg:g'=s.gens:=hm.gens
     skip;have ed:d'=s.drawn:=hm.drawn
     have eo:o'=s.os:=hm.os
     subst eg ed eo
     show wpAny _ _ _ _ _ _;refine wpAny_pure ?_;show wpAny _ _ (ret Value.none) _ _ _
     refine wpAny_pure ⟨rfl,h',t',rfl,hS',fun b o hb e=>?_⟩
     have hb2:b≠(s.heap.push (newSet led)).objs.size:=by rw[Heap.size_push];exact Nat.ne_of_lt (Nat.lt_succ_of_lt hb)
     refine hm.heap b o ?_ (Heap.get?_push_of_some _ (Heap.get?_push_of_some _ e))
     simp only[List.mem_cons,List.mem_nil_iff,or_false,not_or]
     exact⟨Nat.ne_of_lt hb,hb2⟩
   ·cases r₂ with
    | error e=>exact hr₂
    | ok fl₂ =>
     cases fl₂ with
     | ret r =>
      skip;obtain⟨rfl,h',tk,rfl,hS',hk'⟩:=hr₂
      skip;repeat (any_goals (first | assumption | wp_step))
      exact h _ _ hS' hk'
     | _=>exact hr₂.elim
  | _=>exact hr.elim
end
theorem j7t:∀ {ss:List Str}{us:List Value},Vals (ss.map V.str) us→∀ (i:Nat) (v:Value),us[i]?=some v→∃ x t,ss[i]?=some x∧v=.str x t
 | [],us,r,i,v,h=>by cases r;simp at h
 | x :: ss,us,r,i,v,h=>by
  cases r with
  | cons r1 r2 =>
   cases i with
   | zero =>
    obtain⟨t,e⟩:=r1
    simp at h
    exact⟨x,t,rfl,by rw[← h,e]⟩
   | succ i=>exact j7t r2 i v (by simpa using h)
theorem j5s:∀ {ss:List Str}{us:List Value},Vals (ss.map V.str) us→StrsAre us ss
 | [],us,r=>by cases r;exact .nil
 | x :: ss,us,r=>by
  cases r with
  | cons r1 r2 =>
   obtain⟨t,e⟩:=r1
   subst e
   exact .cons x t (j5s r2)
theorem j7u:∀ {us:List Value}{ss:List Str},StrsAre us ss→Vals (ss.map V.str) us
 | _,_,.nil=>.nil
 | _,_,.cons x t h=>.cons ⟨t,rfl⟩ (j7u h)
section
variable {X:Cx}
def jbm (K:PySem.W.Frag):List V→Hp→VK→Prop:=fun xs H Q=>∃ (p:Addr) (ss:List Str),xs=[.ref p]∧SqT K H p (ss.map V.str)∧ss.length≤1000∧Q (.int ((metS ss).length:Nat)) H
theorem jay {a:Expr}{ta:TA}{p p' pos pos':Pos} (hc:X.calm=true) (hg:Gl X "len") (hm:X.mg "len"=none) (hg2:Gl X "set") (hm2:X.mg "set"=none) (ha:PA X [a] ta) (hs:starEach [a] X.env=[(false,eval a X.env)]:=by rfl)
  (ht:starEach [.Call (.Name "set" p') [a] [] pos'] X.env=[(false,eval (.Call (.Name "set" p') [a] [] pos') X.env)]:=by rfl) :
  PE X (.Call (.Name "len" p) [.Call (.Name "set" p') [a] [] pos'] [] pos) (tCB (jbm X.K) ta):=by
 intro pins s σ H Q I h
 refine wpAny_Call_Name_kw (j6b I hg hm PySem.boot_len (PyProof.Rows.callWith_builtin1 ?_ ht rfl) (by decide) (by decide))
 rw[ht]
 show wpAny _ _ (spliced ((false,eval (.Call (.Name "set" p') [a] [] pos') X.env) :: backTo pos [])) _ _ s
 refine Calls.spliced_cons (wpAny_Call_Name_kw (j6b I hg2 hm2 boot_set (PyProof.Rows.callWith_type1 (thn (ha pos' pins s σ H _ I h) fun us s1 ⟨vs,H1,I1,r1,q1⟩=>?_) hs rfl) (by decide) (by decide)))
 obtain⟨p1,ss,e,hx,hz,q⟩:=q1
 subst e
 obtain⟨u,rfl,ru⟩:=j8y r1
 cases ru
 obtain⟨its,ri,pl,_⟩:=I1.tuple hx
 have hl:=ri.length
 rw[List.length_map] at hl
 have le:=jbl ss
 refine j5r (ss:=ss) (I1.ok.hd hc) pl (fun i v hv=>j7t ri i v (by simpa using hv)) (by rw[List.size_toArray];exact hl) (by rw[List.size_toArray];unfold scanBound;omega) fun h' tk hS hk=>Calls.spliced_nil ?_
 obtain⟨o,es,ep,t,ho,hex,hd,_,_,_,hf,hn⟩:=hS
 refine call_len_set ho hex hd hf (by omega) ⟨.int ((metS ss).length:Nat),H1,?_,⟨_,by rw[hn]⟩,q⟩
 exact I1.kept (t':=tk+1+1) fun b o e=>hk b o (Heap.lt_size e) e
theorem jcq {K:PySem.W.Frag}{H:Hp}{Q:VK}{p:Addr}{ss:List Str} (h:H p=some (.tup (ss.map V.str))) (hz:ss.length≤1000) (q:Q (.int ((metS ss).length:Nat)) H):jbm K [.ref p] H Q:=⟨p,ss,rfl,SqT.of h,hz,q⟩
end
section
variable {prog:Program}{w:World}{A:Around}{E:Value→Shared→Prop}{s:Shared}
theorem jcr {b:Bool}{l:Addr}{vs:List Value}{ss:List Str}{Q:Value→Shared→Prop} (hl:SqA b s.heap l vs.toArray) (hz:vs.length≤sizeLine) (hS:StrsAre vs ss) (h64:vs.length < 64)
  (h:∀ (out:Array Value) (ss':List Str),StrsAre out.toList ss'→ss'.Perm ss→sortedS ss'=true→Q (.ref (s.heap.objs.size+1)) { s with heap:=sortedAll s.heap vs out }):wpAny (model prog w) A (call (.builtin "sorted") [.ref l]) Q E s:=by
 refine Calls.call_function_entry kind_sorted plain_sorted entry_sorted (args_sorted1 _) ?_;unfold Builtin.«sorted»
 refine wpAny_bind (m:=checkCount "sorted" 1 1 _) (wpAny_pure (wpAny_bind (j9g hl hz (wpAny_bind (wpAny_newList ?_)))))
 have n1:((s.heap.push (seqObj "list" #[] 0)).update s.heap.objs.size (Obj.mapSeq (·++vs.toArray))).objs.size=s.heap.objs.size+1:=by rw[Heap.size_update,size_push']
 have o1:(((s.heap.push (seqObj "list" #[] 0)).update s.heap.objs.size (Obj.mapSeq (·++vs.toArray))).push (seqObj "list" vs.toArray 0)).get? (s.heap.objs.size+1)=some (seqObj "list" vs.toArray 0):=by rw[← n1];exact Heap.get?_push_size _ rfl
 show wpAny _ _ _ _ _ { s with heap:=((s.heap.push (seqObj "list" #[] 0)).update s.heap.objs.size (Obj.mapSeq (·++vs.toArray))).push (seqObj "list" vs.toArray 0) };rw[n1]
 refine wpAny_bind (wpAny_holding (wpAny_call_entry slot_list_sort ⟨_,o1,rfl⟩ entry_list_sort (list_sort_treeK strKind_oneLt o1 hS.keysOf (fun v₁ v₂ rest e=>keyKind_strs (by rw[← e];exact hS)) h64 fun st' a1 a2=>⟨_,rfl,?_⟩) (args_list_sort _)))
 obtain⟨ss',e1,e2,e3⟩:=sorted_out_str hS a1 a2
 exact wpAny_pure ⟨_,rfl,h _ ss' e1 e2 e3⟩
end
section
variable {X:Cx}
def jep (K:PySem.W.Frag):List V→Hp→VK→Prop:=fun xs H Q=>∃ (p:Addr) (ss:List Str) (c:Bool),xs=[.ref p]∧SqE K H p (ss.map V.str) c∧ss.length < 64∧∀ l (ss':List Str),H l=none→ss'.Perm ss→sortedS ss'=true→Q (.ref l) (upd H l (.lst (ss'.map V.str)))
theorem cSortS:CallR X (.builtin "sorted") (jep X.K):=by
 intro pins s σ H xs us Q I r h
 obtain⟨p,ss,c,rfl,hq,h64,q⟩:=h
 obtain⟨u,rfl,rx⟩:=j8y r
 cases rx
 obtain⟨its,r',pl,hz⟩:=I.sqe hq
 have hlen:=r'.length
 rw[List.length_map] at hlen hz
 refine jcr pl (by omega) (j5s r') (by omega) fun out ss' a1 a2 a3=>?_
 obtain⟨e,he⟩:=sortedAll_at s.heap its out
 refine⟨.ref (s.heap.objs.size+1),_,I.laid (t':=s.toks) (fun b o q=>sortedAll_old q) (Nat.le_succ _) (show ObjOk X.prog X.w _ _ _ (.lst (ss'.map V.str)) from⟨by rw[List.length_map,a2.length_eq];exact hz,out.toList,e,j7u a1,by simpa using he⟩),rfl,q _ ss' (I.hok.fresh (Nat.le_succ _)) a2 a3⟩
def j9p (K:PySem.W.Frag):List V→Hp→VK→Prop:=fun xs H Q=>j7p K xs H Q∨jep K xs H Q
theorem j37:CallR X (.builtin "sorted") (j9p X.K):=je8.or cSortS
end
section
variable {prog:Program}{w:World}{A:Around}{E:Value→Shared→Prop}{s:Shared}
theorem jaz (l:Addr) (xs:Array Value) (x:Value) (e:Value→Bool) (j:Nat) (hj:j < xs.size) (hit:e xs[j]=true) (hno:∀ m (hm:m < xs.size),m < j→e xs[m]=false) :
  Meets (Builtin.«tuple.index» ⟨[.ref l,x],[]⟩) (fun A R s=>IsTup s.heap l xs∧(∀ y,y∈xs→SeqAt.EqAt A.in1 s y x (e y))∧R (.ok (.ret (.int j s.toks))) { s with toks:=s.toks+1 }):=by
 intro prog w A R s h
 obtain⟨hl,he,h⟩:=h
 unfold Builtin.«tuple.index»
 refine wpAny_bind (wpAny_of_eq (a:=(Value.ref l,[x])) rfl ?_)
 show wpAny _ _ (Builtin.Tuple.tupleItemsOf (.ref l) >>= _) _ _ s
 refine wpAny_bind (tupleItemsOf_ hl ?_)
 skip;refine wpAny_bind (wpAny_pure (wpAny_bind (wpAny_pure ?_)))
 dsimp only
 rw[Nat.min_self]
 have loop:∀ (k i:Nat) (s:Shared) (f:Nat→Option PySem.Fin × Unit→Sem (ForInStep (Option PySem.Fin × Unit))) (Q:Option PySem.Fin × Unit→Shared→Prop) (E:Value→Shared→Prop),i+k=xs.size→i≤j→(∀ y,y∈xs→SeqAt.EqAt A.in1 s y x (e y)) →
   (∀ i st,f i st=(match xs[i]? with
    | some y=>do
     if ← eqBool y x then do
      let r ← retInt i
      pure (ForInStep.done (some r,()))
     else pure (ForInStep.yield (none,()))
    | _=>pure (ForInStep.yield (none,()))))→Q (some (.done (.ret (.int j s.toks))),()) { s with toks:=s.toks+1 }→wpAny (model prog w) A.in1 (forIn (List.range' i k) (none,()) f) Q E s:=by
  intro k
  induction k with
  | zero=>intro i s f Q E hk hi;omega
  | succ k ih =>
   intro i s f Q E hk hi he hf q
   have hlt:i < xs.size:=by omega
   rw[List.range'_succ,List.forIn_cons,hf,Array.getElem?_eq_getElem hlt]
   refine wpAny_bind (wpAny_bind (he _ (Array.getElem_mem hlt) prog w _ _ ?_))
   by_cases hij:i=j
   ·subst hij
    rw[hit]
    exact wpAny_bind (wpAny_bind (wpAny_mkInt (wpAny_pure (wpAny_pure (wpAny_pure q)))))
   ·rw[hno i hlt (by omega)]
    exact wpAny_pure (ih (i+1) s f Q E (by omega) (by omega) he hf q)
 skip;rw[Std.Legacy.Range.forIn_eq_forIn_range']
 rw[show List.range' ([:xs.size]:Std.Legacy.Range).start ([:xs.size]:Std.Legacy.Range).size ([:xs.size]:Std.Legacy.Range).step=List.range' 0 xs.size by simp[Std.Legacy.Range.size]]
 refine wpAny_bind (loop xs.size 0 s _ _ _ (by omega) (Nat.zero_le _) he (fun _ _=>rfl) (wpAny_pure h))
end
section
variable {X:Cx}
def tTM (r:V→List V→Hp→VK→Prop) (to:TE) (t:TA):TE:=fun σ H Q=>to σ H fun x H1=>(∃ p xs,x=.ref p∧H1 p=some (.tup xs))∧t σ H1 fun vs H2=>r x vs H2 Q
theorem jh0 {o e:Expr}{es:List Expr}{name:Str}{id:String}{apos cpos:Pos}{r:V→List V→Hp→VK→Prop}{to:TE}{t:TA} (pa:PlainAttrs "tuple") (slot:Slot "tuple" name id) (hty:typeOf (.builtin id)=pure (.type "method_descriptor")) (hm:MtM X id r) (ho:PE X o to) (ha:PA X (e :: es) t)
  (hbase:attributeBase o name X.env (eval o X.env)=eval o X.env:=by rfl)
  (hfew:((backTo cpos (starEach (e :: es) X.env)).all (fun x=>!x.1) && (backToKw cpos (keywordEach [] X.env)).all (fun x=>x.1.isSome)
   && decide ((e :: es).length+([]:List Keyword).length+(if ([]:List Keyword).isEmpty then 0 else 1) < 30))=true:=by rfl)
  (hline:(apos.endLine == cpos.line)=true:=by rfl) (hs:starEach (e :: es) X.env=(false,eval e X.env) :: starEach es X.env:=by rfl) (hplain:(backTo cpos (starEach es X.env)).any (·.1)=false:=by rfl) :
  PE X (.Call (.Attribute o name apos) (e :: es) [] cpos) (tTM r to t):=by
 intro pins s σ H Q I h
 refine wpAny_Call_method_late hbase hfew hline rfl (thn (ho pins s σ H _ I h) fun v s1 ⟨x,H1,I1,r1,⟨p,xs,ex,hp⟩,q1⟩=>?_)
 subst ex
 cases r1
 obtain⟨_,its,_,it,od,f,d⟩:=(show ObjOk X.prog X.w H1 s1.heap p (.tup xs) from I1.hok p _ hp)
 refine⟨"tuple",id,pa,slot,hty,it.typeIs,fun a e=>by cases e;exact⟨od,f,d⟩,?_⟩
 have hA:=ha cpos pins s1 σ H1 _ I1 q1
 rw[hs] at hA ⊢
 refine Calls.callWith_builtin (by show (false || (backTo cpos (starEach es X.env)).any (·.1))=false;rw[hplain] <;> rfl) (Calls.evalArgs_plain ?_)
 exact thn hA fun us s2 ⟨vs,H2,I2,r2,q2⟩=>hm pins s2 σ H2 (.ref p) vs (.ref p) us Q I2 rfl r2 q2
def isS (k:Str):Value→Bool
 | .str z _=>z == k
 | _=>false
def rTIx:V→List V→Hp→VK→Prop:=fun x vs H Q=>∃ (p:Addr) (ss:List Str) (k:Str),x=.ref p∧vs=[.str k]∧H p=some (.tup (ss.map V.str))∧k∈ss∧ss.length≤1000000∧Q (.int (ss.idxOf k:Nat)) H
theorem j56:MtM X "tuple.index" rTIx:=by
 intro pins s σ H x vs v us Q I rx rv h
 obtain⟨p,ss,k,rfl,rfl,hp,hk,hz,q⟩:=h
 cases rx
 obtain⟨u,rfl,t,rfl⟩:=rv.one
 obtain⟨_,its,r,it,_⟩:=(show ObjOk X.prog X.w H s.heap p (.tup (ss.map V.str)) from I.hok p _ hp)
 have hl:=r.length
 rw[List.length_map] at hl
 have hj:ss.idxOf k < ss.length:=List.idxOf_lt_length_iff.mpr hk
 have at_:∀ (m:Nat) (hm:m < its.toArray.size),isS k its.toArray[m]=(ss[m]'(by rw[List.size_toArray] at hm;omega) == k):=fun m hm=>by
  have hm':m < its.length:=by rw[List.size_toArray] at hm;exact hm
  obtain⟨z,t',h1,h2⟩:=j7t r m its[m] (List.getElem?_eq_getElem hm')
  rw[List.getElem?_eq_getElem (show m < ss.length by omega)] at h1
  have h2':its.toArray[m]=.str z t':=by simpa using h2
  rw[h2']
  injection h1 with h1
  rw[h1]
  rfl
 refine call_meets F.slot_tuple_index it.typeIs F.entry_tuple_index (F.args_tuple_index_2 _ _) (jaz p its.toArray (.str k t) (isS k) (ss.idxOf k) (by rw[List.size_toArray];omega) ?_ ?_) ⟨it,fun y hy=>?_,?_⟩
 ·rw[at_,List.getElem_idxOf hj];exact beq_self_eq_true k
 ·intro m hm h2
  rw[at_]
  exact List.not_of_lt_findIdx h2
 ·obtain⟨m,hm,e⟩:=List.getElem_of_mem (show y∈its by simpa using hy)
  obtain⟨z,t',_,h2⟩:=j7t r m y (by rw[← e];exact List.getElem?_eq_getElem hm)
  rw[h2]
  exact SeqAt.EqAt.str_str z t' k t
 ·exact⟨.int (ss.idxOf k:Nat),H,I.tok _,⟨_,rfl⟩,q⟩
end
section
variable {K:PySem.W.Frag}{σ:St}{H:Hp}{Q:VK}
theorem r_tm {r:V→List V→Hp→VK→Prop}{to:TE}{t:TA} (q:to σ H fun x H1=>(∃ p xs,x=.ref p∧H1 p=some (.tup xs))∧t σ H1 fun vs H2=>r x vs H2 Q):tTM r to t σ H Q:=q
theorem r_tyT {p:Addr}{xs:List V}{R:Prop} (h:H p=some (.tup xs)) (q:R):(∃ p' xs',V.ref p=.ref p'∧H p'=some (.tup xs'))∧R:=⟨⟨p,xs,rfl,h⟩,q⟩
theorem j6o {p:Addr}{ss:List Str}{k:Str} (h:H p=some (.tup (ss.map V.str))) (hk:k∈ss) (hz:ss.length≤1000000) (q:Q (.int (ss.idxOf k:Nat)) H):rTIx (.ref p) [.str k] H Q:=⟨p,ss,k,rfl,rfl,h,hk,hz,q⟩
theorem jer {i j:Int} (q:Q (.int (i+j)) H):jem K (.int i) (.int j) H Q:=.inl (jeb q)
theorem jbn {i j:Str} (h:i.length+j.length≤1000000) (q:Q (.str (i++j)) H):jem K (.str i) (.str j) H Q:=.inr ⟨i,j,rfl,rfl,by rw[sizeLine_eq];omega,q⟩
theorem j2m {l b:Addr}{xs zs:List V} (h1:H l=some (.lst xs)) (h2:H b=some (.lst zs)) (hl:xs.length+zs.length≤1000000) (q:∀ p H',H p=none→H' p=some (.lst (xs++zs))→Ext H H'→Q (.ref p) H'):jem K (.ref l) (.ref b) H Q:=.inl (r_catL h1 h2 hl q)
theorem j7v {l b:Addr}{xs zs:List V} (h1:H l=some (.tup xs)) (h2:H b=some (.tup zs)) (hl:xs.length+zs.length≤1000000) (q:∀ p H',H' p=some (.tup (xs++zs))→Ext H H'→Q (.ref p) H'):jem K (.ref l) (.ref b) H Q:=.inl (r_catT h1 h2 hl q)
theorem jbo {i j:Int} (c:CMulB i j) (q:Q (.int (i * j)) H):rMulW (.int i) (.int j) H Q:=.inl (r_I c q)
theorem r_leWI {i j:Int} (q:Q (.bl (decide (i≤j))) H):rLeW (.int i) (.int j) H Q:=.inl (r_I0 q)
theorem r_leWS {i j:Str} (q:Q (.bl (!decide (j.cps.toList < i.cps.toList))) H):rLeW (.str i) (.str j) H Q:=.inr ⟨i,j,rfl,rfl,q⟩
theorem jbp {z:Str} (h:z.length≤1000000) (q:Q (.int z.length) H):jeo K [.str z] H Q:=.inr ⟨z,rfl,by rw[sizeLine_eq];omega,q⟩
theorem j3n {p:Addr}{xs:List V} (h:H p=some (.lst xs)) (q:Q (.int xs.length) H):jeo K [.ref p] H Q:=.inl (r_lenL h q)
theorem j0t {p:Addr}{xs:List V} (h:H p=some (.tup xs)) (q:Q (.int xs.length) H):jeo K [.ref p] H Q:=.inl (r_lenT h q)
theorem jes {p:Addr}{xs:List V} (h:SqL K H p xs) (q:Q (.int xs.length) H):jeo K [.ref p] H Q:=.inl (r_lenS h q)
theorem r_ixS1 {z:Str}{i:Int}{c:Nat} (h:z.length≤1000000) (e:atI z.cps.toList i=some c) (q:Q (.str ⟨#[c]⟩) H):rIx K (.str z) (.int i) H Q:=.inr (.inr ⟨z,i,c,rfl,rfl,by rw[sizeLine_eq];omega,e,q⟩)
theorem j3o {p:Addr}{ss:List Str} (h:H p=some (.tup (ss.map V.str))) (hl:ss.length < 64) (q:∀ l (ss':List Str) H',H l=none→ss'.Perm ss→sortedS ss'=true→H' l=some (.lst (ss'.map V.str))→Ext H H'→Q (.ref l) H'):j9p K [.ref p] H Q :=
 .inr ⟨p,ss,true,rfl,SqT.of h,hl,fun l ss' n h1 h2=>q l ss' _ n h1 h2 j0k (j1c n)⟩
theorem r_istr {tl:TE}{R:It→Hp→Prop} (q:tl σ H fun x H1=>∃ z,x=.str z∧AscS z∧R (Its z) H1):iStr tl σ H R:=q
end
section
variable {K:PySem.W.Frag}{H:Hp}{Q:V→Hp→Prop}
theorem jcs {p:Addr}{ss:List Str} (h:H p=some (.lst (ss.map V.str))) (hl:ss.length < 64) (q:∀ l (ss':List Str) H',H l=none→ss'.Perm ss→sortedS ss'=true→H' l=some (.lst (ss'.map V.str))→Ext H H'→Q (.ref l) H'):j9p K [.ref p] H Q :=
 .inr ⟨p,ss,false,rfl,SqL.of h,hl,fun l zs n hp ho=>q l zs _ n hp ho j0k (j1c n)⟩
end
section
variable {X:Cx}
def tOr2 (t u:TE):TE:=fun σ H Q=>t σ H Q∨u σ H Q
theorem j0i {e:Expr}{t u:TE} (h1:PE X e t) (h2:PE X e u):PE X e (tOr2 t u):=fun pins s σ H Q I h=>h.elim (fun z=>h1 pins s σ H Q I z) fun z=>h2 pins s σ H Q I z
theorem j0j {t u:TE}{σ:St}{H:Hp}{Q:VK} (q:t σ H Q):tOr2 t u σ H Q:=.inl q
theorem j04 {t u:TE}{σ:St}{H:Hp}{Q:VK} (q:u σ H Q):tOr2 t u σ H Q:=.inr q
end
def byT (w:World):Bool:=w.params.followText "set-order"
structure Rise (t:SetTable) (n:Nat) (sl:Nat→Nat):Prop where
 fits:t.fits n=true
 plain:t.plain=true
 zero:sl 0=0
 low:∀ i,i≤n→SetTable.below t.place (sl i)=i
 step:∀ i,i < n→∃ j,t.place[i]?=some j∧j+1=sl (i+1)
end L2
set_option Elab.async false
set_option linter.all false
set_option maxRecDepth 100000
set_option maxHeartbeats 4000000
namespace L2
open PySem PySem.Spec PyProof.Rows PySem.W
end L2
set_option Elab.async false
set_option linter.all false
set_option maxRecDepth 100000
set_option maxHeartbeats 4000000
namespace L2
open PySem PySem.Spec PyProof.Rows PySem.W
def Ris (xs:Array Nat):Prop:=xs.toList.Pairwise (· < ·)
structure Low (xs:Array Nat) (j r:Nat):Prop where
 le:r≤xs.size
 lo:∀ i,i < r→xs.getD i 0 < j
 hi:∀ i,r≤i→i < xs.size→j≤xs.getD i 0
def adv (m:Nat) (p:SetTable.Probe):SetTable.Probe :=
 if p.more > 0 then { p with more:=p.more-1,j:=p.j+1 } else
 { p with j:=(SetTable.leap m p.i p.perturb).1,more:=SetTable.runEnd m (SetTable.leap m p.i p.perturb).1-(SetTable.leap m p.i p.perturb).1,i:=(SetTable.leap m p.i p.perturb).1,perturb:=(SetTable.leap m p.i p.perturb).2 }
def st0 (m:Nat) (h:Int):SetTable.Probe:={ j:=SetTable.bits h % (m+1),more:=SetTable.runEnd m (SetTable.bits h % (m+1))-SetTable.bits h % (m+1),i:=SetTable.bits h % (m+1),perturb:=SetTable.bits h,dummy:=none }
def pth (m:Nat) (h:Int):Nat→SetTable.Probe
 | 0=>st0 m h
 | n+1=>adv m (pth m h n)
theorem jbq {m:Nat}{h:Int}{n:Nat}{p:SetTable.Probe} (e:pth m h n=p):∀ c,c≤p.more→pth m h (n+c)={ p with j:=p.j+c,more:=p.more-c }
 | 0,_=>e
 | c+1,hc=>by
  show adv m (pth m h (n+c))=_
  rw[jbq e c (by omega)]
  unfold adv
  rw[if_pos (show p.more-c > 0 by omega)]
  congr 1 <;> omega
def lp (m:Nat) (h:Int):Nat→Nat × Nat
 | 0=>(SetTable.bits h % (m+1),SetTable.bits h)
 | L+1=>SetTable.leap m (lp m h L).1 (lp m h L).2
theorem run_le (m i:Nat):SetTable.runEnd m i-i≤9:=by unfold SetTable.runEnd;split <;> omega
theorem jet (m:Nat) (h:Int):∀ L,∃ n,n≤10 * L∧pth m h n={ j:=(lp m h L).1,more:=SetTable.runEnd m (lp m h L).1-(lp m h L).1,i:=(lp m h L).1,perturb:=(lp m h L).2,dummy:=none }
 | 0=>⟨0,Nat.le_refl _,rfl⟩
 | L+1=>by
  obtain⟨n,hn,e⟩:=jet m h L
  have r:=run_le m (lp m h L).1
  refine⟨n+(SetTable.runEnd m (lp m h L).1-(lp m h L).1)+1,by omega,?_⟩
  show adv m (pth m h (n+_))=_
  rw[jbq e _ (Nat.le_refl _)]
  unfold adv
  rw[if_neg (by simp)]
  rfl
theorem jbr (m:Nat) (h:Int):∀ L,(lp m h L).2=SetTable.bits h / 32 ^ L
 | 0=>by show SetTable.bits h=_;simp
 | L+1=>by
  show (lp m h L).2 / 32=_
  rw[jbr m h L,Nat.div_div_eq_div_mul,Nat.pow_succ]
theorem jeu (h:Int):SetTable.bits h < 2 ^ 64:=by unfold SetTable.bits;omega
theorem jev (m:Nat) (h:Int) (L:Nat) (hL:13≤L):(lp m h L).2=0:=by
 rw[jbr]
 refine Nat.div_eq_of_lt (Nat.lt_of_lt_of_le (jeu h) ?_)
 exact Nat.le_trans (by decide) (Nat.pow_le_pow_right (by decide) hL)
def cyc (m:Nat):Nat→Nat→Nat
 | 0,x=>x
 | d+1,x=>(cyc m d x * 5+1) % (m+1)
theorem jew (m:Nat) (h:Int):∀ d,(lp m h (13+d)).1=cyc m d (lp m h 13).1
 | 0=>rfl
 | d+1=>by
  show ((lp m h (13+d)).1 * 5+1+(lp m h (13+d)).2 / 32) % (m+1)=_
  rw[jev m h _ (by omega),jew m h d]
  rfl
theorem cyc7:∀ x,x < 8→∀ e,e < 8→∃ d,d < 8∧cyc 7 d x=e:=by decide +kernel
theorem cyc31:∀ x,x < 32→∀ e,e < 32→∃ d,d < 32∧cyc 31 d x=e:=by decide +kernel
theorem j7w (m:Nat):∀ (a b x:Nat),cyc m (a+b) x=cyc m a (cyc m b x)
 | 0,b,x=>by rw[Nat.zero_add];rfl
 | a+1,b,x=>by
  rw[show a+1+b=(a+b)+1 by omega]
  show (cyc m (a+b) x * 5+1) % (m+1)=_
  rw[j7w m a b x]
  rfl
theorem cyc00:∀ e,e < 128→∃ d,d < 128∧cyc 127 d 0=e:=by decide +kernel
theorem cyc127:∀ x,x < 128→∀ e,e < 128→∃ d,d < 128∧cyc 127 d x=e:=fun x hx e he=>by
 obtain⟨p,hp,rfl⟩:=cyc00 x hx
 obtain⟨q,hq,rfl⟩:=cyc00 e he
 by_cases h:p≤q
 ·exact⟨q-p,by omega,by rw[← j7w,Nat.sub_add_cancel h]⟩
 ·refine⟨q+128-p,by omega,?_⟩
  rw[← j7w,show q+128-p+p=q+128 by omega,j7w,show cyc 127 128 0=0 by decide +kernel]
def Msk (m:Nat):Prop:=m=7∨m=31∨m=127
theorem jex {m:Nat} (hm:Msk m) {x e:Nat} (hx:x < m+1) (he:e≤m):∃ d,d < m+1∧cyc m d x=e:=by
 rcases hm with rfl | rfl | rfl
 ·exact cyc7 _ hx _ (by omega)
 ·exact cyc31 _ hx _ (by omega)
 ·exact cyc127 _ hx _ (by omega)
theorem lp_lt (m:Nat) (h:Int):∀ L,(lp m h L).1 < m+1
 | 0=>Nat.mod_lt _ (Nat.succ_pos _)
 | L+1=>Nat.mod_lt _ (Nat.succ_pos _)
theorem meets {m:Nat} (hm:Msk m) (h:Int) {e:Nat} (he:e≤m):∃ n,n < 10 * (m+14)∧(pth m h n).j=e:=by
 have l:=lp_lt m h 13
 obtain⟨d,hd,hc⟩:=jex hm l he
 obtain⟨n,hn,q⟩:=jet m h (13+d)
 exact⟨n,by omega,by rw[q];show (lp m h (13+d)).1=e;rw[jew,hc]⟩
structure Tab (t:SetTable) (es:Array (Int × Value)):Prop where
 mask:Msk t.mask
 dum:t.dummies=#[]
 ris:Ris t.place
 size:t.place.size=es.size
 room:es.size * 5 < t.mask * 3
 top:∀ j∈t.place.toList,j≤t.mask
 way:∀ (i:Nat) (hi:i < es.size),∃ N,(pth t.mask es[i].1 N).j=t.place.getD i 0∧∀ m,m < N→(pth t.mask es[i].1 m).j∈t.place.toList
section
variable {prog:Program}{w:World}{A:Around}{E:Value→Shared→Prop}{s:Shared}
structure Asks (prog:Program) (w:World) (A:Around) (E:Value→Shared→Prop) (s:Shared) (es:Array (Int × Value)) (x:Value) (hash:Int) {K:Type} [DecidableEq K] (key:Nat→K) (k:K):Prop where
 hsh:∀ (i:Nat) (hi:i < es.size),key i=k→es[i].1=hash
 eq:∀ (i:Nat) (hi:i < es.size) (Q:Bool→Shared→Prop),Q (decide (key i=k)) s→wpAny (model prog w) A (eqBool es[i].2 x) Q E s
 ref:∀ (i:Nat) (hi:i < es.size),∃ a,es[i].2=.ref a
 seen:∀ (l:List Value),(∀ y∈l,∃ (i:Nat) (hi:i < es.size),y=es[i].2)→∀ Q:Bool→Shared→Prop,Q false s→wpAny (model prog w) A (searchCouldBeSeen x l) Q E s
end
abbrev OwnA:=Array (Option Nat)
theorem set_perm:∀ (l:List (Option Nat)) (j k:Nat),l[j]?=some none→((l.set j (some k)).filterMap id).Perm (k :: l.filterMap id)
 | [],j,k,h=>by simp at h
 | a :: l,0,k,h=>by
  simp at h
  subst h
  exact List.Perm.refl _
 | a :: l,j+1,k,h=>by
  have ih:=set_perm l j k (by simpa using h)
  cases a with
  | none=>exact ih
  | some x=>exact (ih.cons x).trans (List.Perm.swap _ _ _)
structure LaidT (m:Nat) (hs:List Int) (ow:OwnA):Prop where
 size:ow.size=m+1
 perm:(ow.toList.filterMap id).Perm (List.range hs.length)
 way:∀ j i,ow[j]?=some (some i)→∃ h,hs[i]?=some h∧∃ N,(pth m h N).j=j∧∀ q,q < N→(ow.getD (pth m h q).j (some 0)).isNone=false
section
variable {prog:Program}{w:World}{A:Around}{E:Value→Shared→Prop}{s:Shared}
def RowE (prog:Program) (w:World) (Z:Addr→List Int→Prop) (h:Heap) (e:Int × Value) (L:List Int):Prop:=∃ a,e.2=.ref a∧IsTupleKey (intKind prog w) h L a∧e.1=tupleKeyHash (intKind prog w) L∧Z a L
inductive RowsE (prog:Program) (w:World) (Z:Addr→List Int→Prop) (h:Heap):List (Int × Value)→List (List Int)→Prop
 | nil:RowsE prog w Z h [] []
 | cons {e:Int × Value}{L:List Int}{es:List (Int × Value)}{Ls:List (List Int)}:RowE prog w Z h e L→RowsE prog w Z h es Ls→RowsE prog w Z h (e :: es) (L :: Ls)
end
end L2
set_option Elab.async false
set_option linter.all false
set_option maxRecDepth 100000
set_option maxHeartbeats 4000000
namespace L2
open PySem PySem.Spec PyProof.Rows PySem.W
inductive RowsV (prog:Program) (w:World) (Z:Addr→List Int→Prop) (h:Heap):List Value→List (List Int)→Prop
 | nil:RowsV prog w Z h [] []
 | cons {a:Addr}{L:List Int}{vs:List Value}{Ls:List (List Int)}:IsTupleKey (intKind prog w) h L a→Z a L→RowsV prog w Z h vs Ls→RowsV prog w Z h (.ref a :: vs) (L :: Ls)
inductive RefsH (H:Hp):List V→List (List Int)→Prop
 | nil:RefsH H [] []
 | cons {a:Addr}{L:List Int}{vs:List V}{Ls:List (List Int)}:H a=some (.tup (L.map V.int))→RefsH H vs Ls→RefsH H (.ref a :: vs) (L :: Ls)
end L2
set_option Elab.async false
set_option linter.all false
set_option maxRecDepth 100000
set_option maxHeartbeats 4000000
namespace L2
open PySem PySem.Spec PyProof.Rows PySem.W
def jey (p q:List Int × Int):Prop:=p.1 < q.1∨(p.1=q.1∧p.2 < q.2)
instance (p q:List Int × Int):Decidable (jey p q):=by unfold jey;infer_instance
inductive PairsAt (prog:Program) (w:World) (h:Heap):List Value→List (List Int × Int)→Prop
 | nil:PairsAt prog w h [] []
 | cons {c a:Addr}{L:List Int}{x:Int}{t:Tok}{vs:List Value}{Ks:List (List Int × Int)}:IsTup h c #[.ref a,.int x t]→IsTupleKey (intKind prog w) h L a→PairsAt prog w h vs Ks→PairsAt prog w h (.ref c :: vs) ((L,x) :: Ks)
end L2
set_option Elab.async false
set_option linter.all false
set_option maxRecDepth 100000
set_option maxHeartbeats 4000000
namespace L2
open PySem PySem.Spec PyProof.Rows PySem.W
inductive PairsH (H:Hp):List V→List (List Int × Int)→Prop
 | nil:PairsH H [] []
 | cons {c a:Addr}{L:List Int}{x:Int}{vs:List V}{Ks:List (List Int × Int)}:H c=some (.tup [.ref a,.int x])→H a=some (.tup (L.map V.int))→PairsH H vs Ks→PairsH H (.ref c :: vs) ((L,x) :: Ks)
section
variable {X:Cx}
open Classical in
end
structure LamOk (X:Cx) (scope:Scope) (cl:List (Str × Addr)) (x:Str) (fr:List Str) (js:List Nat):Prop where
 kind:scope.kind=.function
 co:scope.isCoroutine=false
 gen:scope.isGenerator=false
 nc:∀ y∈scope.names,y.2≠.cell
 par:scope.names.lookup x=some .local
 clos:j36 X.env.cells scope.names []=some cl
 frees:Frees X scope fr js
section
variable {X:Cx}{pins:List (Addr × Obj)}{σ:St}{H:Hp}{s:Shared}
structure Keyed (X:Cx) (A:Around) (σ:St) (KR:Hp→V→Nat→Prop) (lt:Nat→Nat→Bool):Prop where
 ext:∀ {H H':Hp}{v:V}{i:Nat},Ext H H'→KR H v i→KR H' v i
 cmp:∀ {pins:List (Addr × Obj)}{H:Hp}{s:Shared}{v1 v2:V}{u1 u2:Value}{i j:Nat}{Q:Value→Shared→Prop}{E:Value→Shared→Prop},Inv X pins σ H s→KR H v1 i→RelV v1 u1→KR H v2 j→RelV v2 u2→Q (.bool (lt i j)) s →
  wpAny (model X.prog X.w) A (richCompare .Lt u1 u2) Q E s
structure Turns (X:Cx) (A:Around) (pins:List (Addr × Obj)) (σ:St) (KR:Hp→V→Nat→Prop) (G:Hp→Prop) (q l:Addr) (xs:List V) (tp:Bool):Prop where
 ext:∀ {H H':Hp},Ext H H'→G H→G H'
 src:∀ {H:Hp},G H→SqE X.K H l xs tp
 turn:∀ {ps:List (Addr × Obj)}{H:Hp}{s:Shared}{i:Nat}{x:V}{u:Value}{E:Value→Shared→Prop},(∀ p∈pins,p∈ps)→Inv X ps σ H s→G H→xs[i]?=some x→RelV x u →
  wpAny (model X.prog X.w) A (call (.ref q) [u]) (EP X ps σ fun kv H'=>KR H' kv i∧Ext H H') E s
variable {A:Around}{KR:Hp→V→Nat→Prop}{lt:Nat→Nat→Bool}{G:Hp→Prop}{l q It S:Addr}{xs:List V}{tp:Bool}{R:Result→Shared→Prop}
end
abbrev LA (α:Type):=List (Addr × Obj)→Addr→Addr→Shared→Hp→α
structure NoC (K:PySem.W.Frag) (C B:Addr):Prop where
 ha:PySem.W.findIn K (.ref C) "__class__"=some (some (.builtin "object.__class__"))
 hn:PySem.W.specialIn K (.builtin "object.__class__") "__get__"=some (some (.builtin "getset_descriptor.__get__"))
 htk:PySem.W.takesIn K (.builtin "object.__class__")=some true
 hm:PySem.W.mroIn K C (.type "object")=some true
 ki:PySem.W.kitOne K (.ref C) (.ref B)=some false
structure RiseG (w:World) (t:SetTable) (n:Nat) (sl:Nat→Nat):Prop where
 fits:t.fits n=true
 dr:byT w=false→(!t.plain && decide (n > 1))=false
 zero:sl 0=0
 low:∀ i,i≤n→SetTable.below t.place (sl i)=i
 step:∀ i,i < n→∃ j,t.place[i]?=some j∧j+1=sl (i+1)
section
variable {prog:Program}{w:World}{A:Around}{E:Value→Shared→Prop}{s:Shared}
def RowET (prog:Program) (w:World) (Z:Addr→List Str→Prop) (h:Heap) (e:Int × Value) (L:List Str):Prop:=∃ a,e.2=.ref a∧IsTupleKey (PySem.strKind prog w) h L a∧e.1=tupleKeyHash (PySem.strKind prog w) L∧Z a L
inductive RowsET (prog:Program) (w:World) (Z:Addr→List Str→Prop) (h:Heap):List (Int × Value)→List (List Str)→Prop
 | nil:RowsET prog w Z h [] []
 | cons {e:Int × Value}{L:List Str}{es:List (Int × Value)}{Ls:List (List Str)}:RowET prog w Z h e L→RowsET prog w Z h es Ls→RowsET prog w Z h (e :: es) (L :: Ls)
end
end L2
set_option Elab.async false
set_option linter.all false
set_option maxRecDepth 100000
set_option maxHeartbeats 4000000
namespace L2
open PySem PySem.Spec PyProof.Rows PySem.W
def cpm (L:List Str):List (List Nat):=L.map fun x=>x.cps.toList
inductive StrsV:List Value→List Str→Prop
 | nil:StrsV [] []
 | cons (n:Str) (t:Tok) {vs:List Value}{ns:List Str}:StrsV vs ns→StrsV (.str n t :: vs) (n :: ns)
inductive RowsVT (prog:Program) (w:World) (Z:Addr→List Str→Prop) (h:Heap):List Value→List (List Str)→Prop
 | nil:RowsVT prog w Z h [] []
 | cons {a:Addr}{L:List Str}{vs:List Value}{Ls:List (List Str)}:IsTupleKey (PySem.strKind prog w) h L a→Z a L→RowsVT prog w Z h vs Ls→RowsVT prog w Z h (.ref a :: vs) (L :: Ls)
inductive RefsHT (H:Hp):List V→List (List Str)→Prop
 | nil:RefsHT H [] []
 | cons {a:Addr}{L:List Str}{vs:List V}{Ls:List (List Str)}:H a=some (.tup (L.map V.str))→RefsHT H vs Ls→RefsHT H (.ref a :: vs) (L :: Ls)
section
open PySem.SeqAt
open PySem.AutoSeq1 (wpAny_loadPart')
open PySem.MeetsSeq PySem.MeetsSeq2 PySem.MeetsSeq3
end
end L2
set_option Elab.async false
set_option linter.all false
set_option maxRecDepth 100000
set_option maxHeartbeats 4000000
namespace L2
open PySem PySem.Spec PyProof.Rows PySem.W
def jbs (p q:List Str × Int):Prop:=cpm p.1 < cpm q.1∨(p.1=q.1∧p.2 < q.2)
instance (p q:List Str × Int):Decidable (jbs p q):=by unfold jbs;infer_instance
inductive PairsAtT (prog:Program) (w:World) (h:Heap):List Value→List (List Str × Int)→Prop
 | nil:PairsAtT prog w h [] []
 | cons {c a:Addr}{L:List Str}{x:Int}{t:Tok}{vs:List Value}{Ks:List (List Str × Int)}:IsTup h c #[.ref a,.int x t]→IsTupleKey (PySem.strKind prog w) h L a→PairsAtT prog w h vs Ks→PairsAtT prog w h (.ref c :: vs) ((L,x) :: Ks)
inductive PairsHT (H:Hp):List V→List (List Str × Int)→Prop
 | nil:PairsHT H [] []
 | cons {c a:Addr}{L:List Str}{x:Int}{vs:List V}{Ks:List (List Str × Int)}:H c=some (.tup [.ref a,.int x])→H a=some (.tup (L.map V.str))→PairsHT H vs Ks→PairsHT H (.ref c :: vs) ((L,x) :: Ks)
section
open PySem.SeqAt
open PySem.AutoSeq1 (wpAny_loadPart')
open PySem.MeetsSeq PySem.MeetsSeq2 PySem.MeetsSeq3
end
inductive IsDc:HO→Prop
 | k (kvs:List (Key × V)):IsDc (.dK kvs)
 | t (kvs:List (List Key × V)):IsDc (.dT kvs)
structure LamC1 (sc:Scope) (x y:Str):Prop where
 kind:sc.kind=.function
 co:sc.isCoroutine=false
 gen:sc.isGenerator=false
 nc:∀ z∈sc.names,z.2≠.cell
 par:sc.names.lookup x=some .local
 fre:sc.names.lookup y=some .free
 only:∀ z∈sc.names,z.2=.free→z.1=y
structure LamC2 (sc:Scope) (x y:Str) (rest:List (Str × NameKind)):Prop where
 kind:sc.kind=.function
 co:sc.isCoroutine=false
 gen:sc.isGenerator=false
 names:sc.names=(x,.cell) :: rest
 nc:∀ z∈rest,z.2≠.cell
 ne:x≠y
 fre:sc.names.lookup y=some .free
 only:∀ z∈sc.names,z.2=.free→z.1=y
abbrev LAC (α:Type):=List (Addr × Obj)→Addr→Addr→Shared→Addr→Hp→α
inductive IntsE:List (Int × Value)→List Int→Prop
 | nil:IntsE [] []
 | cons {n:Int}{t:Tok}{es:List (Int × Value)}{ns:List Int}:IntsE es ns→IntsE ((hashInt n,.int n t) :: es) (n :: ns)
section
variable {X:Cx}
open Classical in
end
section
variable {X:Cx}
theorem jb0 {K:PySem.W.Frag}{H:Hp}{Q:VK}{p:Addr}{ns:List Int} (h:H p=some (.tup (ns.map V.int))) (hl:ns.length < 64) (q:∀ l (ns':List Int) H',H l=none→ns'.Perm ns→ns'.Pairwise (·≤·)→H' l=some (.lst (ns'.map V.int))→Ext H H'→Q (.ref l) H'):j9p K [.ref p] H Q:=.inl (jat h hl q)
end
end L2
set_option Elab.async false
set_option linter.all false
set_option maxRecDepth 100000
set_option maxHeartbeats 4000000
namespace L2
open PySem PySem.Spec PyProof.Rows PySem.W
theorem jez {K:PySem.W.Frag}{H:Hp}{Q:VK}{p:Addr}{ns:List Int} (h:H p=some (.lst (ns.map V.int))) (hl:ns.length < 64) (q:∀ l (ns':List Int) H',H l=none→ns'.Perm ns→ns'.Pairwise (·≤·)→H' l=some (.lst (ns'.map V.int))→Ext H H'→Q (.ref l) H'):j9p K [.ref p] H Q:=.inl (jas h hl q)
theorem j9q {M:Model}{A:Around}{E:Value→Shared→Prop}{s:Shared}{Q:Value→Shared→Prop}{c d:Bool} (h:Q (Value.bool !(c == d)) s):wpAny M A (compareOp CmpOp.IsNot (Value.bool c) (Value.bool d)) Q E s:=by
 cases c <;> cases d <;> exact wpAny_pure h
section
variable {X:Cx}
def rIsB:R2:=fun x y H Q=>∃ c d,x=.bl c∧y=.bl d∧Q (.bl (c == d)) H
def rNotB:R2:=fun x y H Q=>∃ c d,x=.bl c∧y=.bl d∧Q (.bl (!(c == d))) H
theorem op_isB:OpR X (compareOp .Is) rIsB:=by
 intro pins s σ H x y v u Q I rx ry h
 obtain⟨c,d,rfl,rfl,q⟩:=h
 cases rx
 cases ry
 exact is_bool (j15 I q rfl)
theorem j9r:OpR X (compareOp .IsNot) rNotB:=by
 intro pins s σ H x y v u Q I rx ry h
 obtain⟨c,d,rfl,rfl,q⟩:=h
 cases rx
 cases ry
 exact j9q (j15 I q rfl)
theorem j89 {H:Hp}{Q:VK}{c d:Bool} (q:Q (.bl (c == d)) H):rIsB (.bl c) (.bl d) H Q:=⟨c,d,rfl,rfl,q⟩
theorem j19 {H:Hp}{Q:VK}{c d:Bool} (q:Q (.bl (!(c == d))) H):rNotB (.bl c) (.bl d) H Q:=⟨c,d,rfl,rfl,q⟩
end
def outS (z:Str) (lo hi:Option Int):Str:=if ((Builtin.Str.strSliceIndices lo hi 1 z.length).length == z.length)=true then z else ⟨((Builtin.Str.strSliceIndices lo hi 1 z.length).filterMap (z.cps[·]?)).toArray⟩
section
variable {X:Cx}
def rSlE:V→Option Int→Option Int→Hp→VK→Prop:=fun x lo hi H Q=>∃ z:Str,x=.str z∧z.length≤1000000∧Q (.str (outS z lo hi)) H
theorem ja3:SlR X rSlE:=by
 skip;intro pins s σ H x v vl vu lo hi sl Q I rx hs pl pu h
 obtain⟨z,rfl,hz,q⟩:=h
 obtain⟨t,rfl⟩:=rx
 refine⟨"str",_,F.slot_str_getitem.lookup,typeIs_str _ _ _,?_⟩
 have part:∀ {v:Value}{o:Option Int},IsPart v o→∃ l:Option (Int × Tok),v=partValue l∧l.map (·.1)=o:=fun p=>by
  cases p with
  | none=>exact⟨none,rfl,rfl⟩
  | int i t=>exact⟨some (i,t),rfl,rfl⟩
 obtain⟨l,e1,f1⟩:=part pl
 obtain⟨u,e2,f2⟩:=part pu
 have hs':s.heap.IsSlice sl l u none:=by
  obtain⟨o,h1,h2,h3⟩:=hs
  exact⟨o,h1,h2,by rw[h3,e1,e2];rfl⟩
 refine wpAny_getItem_str_slice hs' rfl ?_
 have hp:slicePicked z l u none=Builtin.Str.strSliceIndices lo hi 1 z.length:=by
  unfold slicePicked
  rw[f1,f2]
  rfl
 unfold sliceMade
 rw[hp]
 unfold outS at q
 have he:(((Option.map (fun x:Int × Tok=>x.fst) none).getD 1 == 1 && (Builtin.Str.strSliceIndices lo hi 1 z.length).length == z.length):Bool)=((Builtin.Str.strSliceIndices lo hi 1 z.length).length == z.length):=rfl
 rw[he]
 split
 ·rename_i c
  rw[if_pos c] at q
  exact⟨.str z,H,I,⟨t,rfl⟩,q⟩
 ·rename_i c
  rw[if_neg c] at q
  have hle:((Builtin.Str.strSliceIndices lo hi 1 z.length).filterMap (z.cps[·]?)).length≤z.length:=Nat.le_trans (List.length_filterMap_le _ _) (sliceIndices_le _ _ _)
  refine⟨?_,.str _,H,I.tok _,⟨_,rfl⟩,q⟩
  rw[sizeLine_eq]
  show ((Builtin.Str.strSliceIndices lo hi 1 z.length).filterMap (z.cps[·]?)).toArray.size≤_
  rw[List.size_toArray]
  omega
theorem jh8 {H:Hp}{Q:VK}{z:Str}{lo hi:Option Int} (h:z.length≤1000000) (q:Q (.str (outS z lo hi)) H):rSlE (.str z) lo hi H Q:=⟨z,rfl,h,q⟩
end
def FnN (K:PySem.W.Frag) (x:Str) (st:Stmt) (f:Addr):Prop:=PySem.W.nsIn K mainGlobals x=some (some (.ref f))∧∃ fd,Fun K x x st f fd
def FnM (K:PySem.W.Frag) (C:Addr) (x q:Str) (st:Stmt) (f:Addr):Prop:=PySem.W.findIn K (.ref C) x=some (some (.ref f))∧∃ fd,Fun K x q st f fd
def NsC (K:PySem.W.Frag) (x:Str) (C:Addr):Prop:=PySem.W.nsIn K mainGlobals x=some (some (.ref C))
def NsB (K:PySem.W.Frag) (x:Str):Prop:=PySem.W.nsIn K mainGlobals x=some none
theorem Fun.one {K:PySem.W.Frag}{x qual:Str}{st:Stmt}{f:Addr}{fd:FuncData}{n:Str} (F:Fun K x qual st f fd)
  (h:∀ (kV doc pm:Value) (an:Option Addr) (cdv ct:Value) (s:Shared) (v:Value),bindArgs (PySem.W.fnOf x qual (j2h st) (j20 st) (j06 st) .none kV doc pm an cdv ct) ⟨[v],[]⟩=pure [(n,v)]) (s:Shared) (v:Value):BindsTo s fd ⟨[v],[]⟩ [(n,v)]:=by
 obtain⟨oc,od,kV,doc,pm,an,cdv,ct,osl,rfl,lk,hcd⟩:=F.ex
 exact .of_eq (h kV doc pm an cdv ct s v)
end L2
namespace Q
open PySem PySem.Spec PyProof.Rows L2
def top (i:Nat):Stmt:=PySem.Challenge.pw_lateknow_k83_rules_and_worlds.main.body.getD i (.Pass ⟨0,0,0,0⟩)
abbrev s_z91:Stmt:=top 67
abbrev s_z84:Stmt:=top 50
abbrev s_z78:Stmt:=top 49
abbrev s_z37:Stmt:=top 51
abbrev s_z79:Stmt:=j0n (top 15) 5
abbrev s_z28:Stmt:=j0n (top 22) 5
abbrev s_z0:Stmt:=j0n (top 22) 2
abbrev s_z4:Stmt:=j0n (top 22) 4
abbrev s_z15:Stmt:=j0n (top 22) 3
abbrev s_z24:Stmt:=j0n (top 21) 2
abbrev s_z11:Stmt:=top 9
abbrev s_z6:Stmt:=top 6
abbrev s_z33:Stmt:=j0n (top 39) 4
abbrev s_z1:Stmt:=j0n (top 39) 2
abbrev s_z20:Stmt:=j0n (top 15) 2
abbrev s_z47:Stmt:=j0n (top 38) 3
abbrev s_z18:Stmt:=j0n (top 39) 3
abbrev s_z22:Stmt:=j0n (top 38) 2
abbrev s_z86:Stmt:=top 10
abbrev s_z13:Stmt:=j0n (top 42) 4
abbrev s_z2:Stmt:=j0n (top 42) 2
abbrev s_z59:Stmt:=j0n (top 41) 3
abbrev s_z8:Stmt:=j0n (top 42) 3
abbrev s_z36:Stmt:=j0n (top 41) 2
abbrev s_z71:Stmt:=top 7
abbrev s_z55:Stmt:=j0n (top 15) 3
abbrev s_z53:Stmt:=j0n (top 24) 3
abbrev s_z26:Stmt:=j0n (top 25) 1
abbrev s_z32:Stmt:=j0n (top 24) 2
abbrev s_z46:Stmt:=j0n (top 35) 3
abbrev s_z40:Stmt:=top 34
abbrev s_z62:Stmt:=top 33
abbrev s_z31:Stmt:=j0n (top 36) 1
abbrev s_z21:Stmt:=j0n (top 35) 2
abbrev s_z54:Stmt:=j0n (top 30) 3
abbrev s_z41:Stmt:=top 27
abbrev s_z43:Stmt:=j0n (top 31) 1
abbrev s_z35:Stmt:=j0n (top 30) 2
abbrev s_z80:Stmt:=top 8
abbrev s_z82:Stmt:=top 63
abbrev s_z61:Stmt:=top 59
abbrev s_z14:Stmt:=j0n (top 22) 6
abbrev s_z17:Stmt:=j0n (top 39) 5
abbrev s_z7:Stmt:=j0n (top 42) 5
abbrev s_z25:Stmt:=j0n (top 25) 2
abbrev s_z30:Stmt:=j0n (top 36) 2
abbrev s_z42:Stmt:=j0n (top 31) 2
abbrev s_z68:Stmt:=j0n (top 15) 6
abbrev s_z56:Stmt:=j0n (top 15) 4
abbrev s_z39:Stmt:=top 61
abbrev s_z12:Stmt:=j0n (top 21) 1
abbrev s_z10:Stmt:=j0n (top 38) 1
abbrev s_z70:Stmt:=top 11
abbrev s_z23:Stmt:=j0n (top 41) 1
abbrev s_z16:Stmt:=j0n (top 24) 1
abbrev s_z9:Stmt:=j0n (top 35) 1
abbrev s_z19:Stmt:=j0n (top 30) 1
abbrev s_z38:Stmt:=top 62
abbrev s_z72:Stmt:=top 60
abbrev s_z77:Stmt:=top 65
abbrev s_z29:Stmt:=j0n (top 22) 1
abbrev s_z34:Stmt:=j0n (top 39) 1
abbrev s_z3:Stmt:=j0n (top 42) 1
abbrev s_z83:Stmt:=top 66
abbrev s_z50:Stmt:=j0n (top 21) 3
abbrev s_z89:Stmt:=top 20
abbrev s_z90:Stmt:=top 19
abbrev s_z48:Stmt:=top 64
abbrev s_z44:Stmt:=j0n (top 22) 0
abbrev s_z67:Stmt:=j0n (top 15) 0
abbrev s_z63:Stmt:=j0n (top 21) 0
abbrev s_z45:Stmt:=j0n (top 39) 0
abbrev s_z58:Stmt:=j0n (top 38) 0
abbrev s_z5:Stmt:=top 12
abbrev s_z27:Stmt:=j0n (top 42) 0
abbrev s_z69:Stmt:=j0n (top 41) 0
abbrev s_z51:Stmt:=j0n (top 25) 0
abbrev s_z65:Stmt:=j0n (top 24) 0
abbrev s_z52:Stmt:=j0n (top 36) 0
abbrev s_z57:Stmt:=j0n (top 35) 0
abbrev s_z64:Stmt:=j0n (top 31) 0
abbrev s_z87:Stmt:=top 29
abbrev s_z66:Stmt:=j0n (top 30) 0
abbrev s_z49:Stmt:=top 45
abbrev s_z88:Stmt:=top 44
abbrev s_z85:Stmt:=top 56
abbrev s_z60:Stmt:=top 52
abbrev s_z73:Stmt:=top 48
abbrev s_z74:Stmt:=top 54
abbrev s_z75:Stmt:=top 53
abbrev s_z76:Stmt:=top 55
abbrev s_z81:Stmt:=top 47
set_option genInjectivity false in
structure Adr where
 f_z91:Addr
 d_z91:FuncData
 f_z84:Addr
 d_z84:FuncData
 f_z78:Addr
 d_z78:FuncData
 f_z37:Addr
 d_z37:FuncData
 f_z79:Addr
 d_z79:FuncData
 f_z28:Addr
 d_z28:FuncData
 f_z0:Addr
 d_z0:FuncData
 f_z4:Addr
 d_z4:FuncData
 f_z15:Addr
 d_z15:FuncData
 f_z24:Addr
 d_z24:FuncData
 f_z11:Addr
 d_z11:FuncData
 f_z6:Addr
 d_z6:FuncData
 f_z33:Addr
 d_z33:FuncData
 f_z1:Addr
 d_z1:FuncData
 f_z20:Addr
 d_z20:FuncData
 f_z47:Addr
 d_z47:FuncData
 f_z18:Addr
 d_z18:FuncData
 f_z22:Addr
 d_z22:FuncData
 f_z86:Addr
 d_z86:FuncData
 f_z13:Addr
 d_z13:FuncData
 f_z2:Addr
 d_z2:FuncData
 f_z59:Addr
 d_z59:FuncData
 f_z8:Addr
 d_z8:FuncData
 f_z36:Addr
 d_z36:FuncData
 f_z71:Addr
 d_z71:FuncData
 f_z55:Addr
 d_z55:FuncData
 f_z53:Addr
 d_z53:FuncData
 f_z26:Addr
 d_z26:FuncData
 f_z32:Addr
 d_z32:FuncData
 f_z46:Addr
 d_z46:FuncData
 f_z40:Addr
 d_z40:FuncData
 f_z62:Addr
 d_z62:FuncData
 f_z31:Addr
 d_z31:FuncData
 f_z21:Addr
 d_z21:FuncData
 f_z54:Addr
 d_z54:FuncData
 f_z41:Addr
 d_z41:FuncData
 f_z43:Addr
 d_z43:FuncData
 f_z35:Addr
 d_z35:FuncData
 f_z80:Addr
 d_z80:FuncData
 f_z82:Addr
 d_z82:FuncData
 f_z61:Addr
 d_z61:FuncData
 f_z14:Addr
 d_z14:FuncData
 f_z17:Addr
 d_z17:FuncData
 f_z7:Addr
 d_z7:FuncData
 f_z25:Addr
 d_z25:FuncData
 f_z30:Addr
 d_z30:FuncData
 f_z42:Addr
 d_z42:FuncData
 f_z68:Addr
 d_z68:FuncData
 f_z56:Addr
 d_z56:FuncData
 f_z39:Addr
 d_z39:FuncData
 f_z12:Addr
 d_z12:FuncData
 f_z10:Addr
 d_z10:FuncData
 f_z70:Addr
 d_z70:FuncData
 f_z23:Addr
 d_z23:FuncData
 f_z16:Addr
 d_z16:FuncData
 f_z9:Addr
 d_z9:FuncData
 f_z19:Addr
 d_z19:FuncData
 f_z38:Addr
 d_z38:FuncData
 f_z72:Addr
 d_z72:FuncData
 f_z77:Addr
 d_z77:FuncData
 f_z29:Addr
 d_z29:FuncData
 f_z34:Addr
 d_z34:FuncData
 f_z3:Addr
 d_z3:FuncData
 f_z83:Addr
 d_z83:FuncData
 f_z50:Addr
 d_z50:FuncData
 f_z89:Addr
 d_z89:FuncData
 f_z90:Addr
 d_z90:FuncData
 f_z48:Addr
 d_z48:FuncData
 f_z44:Addr
 d_z44:FuncData
 f_z67:Addr
 d_z67:FuncData
 f_z63:Addr
 d_z63:FuncData
 f_z45:Addr
 d_z45:FuncData
 f_z58:Addr
 d_z58:FuncData
 f_z5:Addr
 d_z5:FuncData
 f_z27:Addr
 d_z27:FuncData
 e_Changer_init:List Value
 f_z69:Addr
 d_z69:FuncData
 f_z51:Addr
 d_z51:FuncData
 f_z65:Addr
 d_z65:FuncData
 f_z52:Addr
 d_z52:FuncData
 f_z57:Addr
 d_z57:FuncData
 f_z64:Addr
 d_z64:FuncData
 f_z87:Addr
 d_z87:FuncData
 f_z66:Addr
 d_z66:FuncData
 f_z49:Addr
 d_z49:FuncData
 f_z88:Addr
 d_z88:FuncData
 f_z85:Addr
 d_z85:FuncData
 f_z60:Addr
 d_z60:FuncData
 f_z73:Addr
 d_z73:FuncData
 f_z74:Addr
 d_z74:FuncData
 f_z75:Addr
 d_z75:FuncData
 f_z76:Addr
 d_z76:FuncData
 f_z81:Addr
 d_z81:FuncData
 c_World:Addr
 c_Rule:Addr
 c_Bound:Addr
 c_Bags:Addr
 c_Filler:Addr
 c_Hire:Addr
 c_Buyer:Addr
 c_Line:Addr
 c_Both:Addr
 c_Shelf:Addr
 c_Front:Addr
 c_Store:Addr
 c_Keeper:Addr
 c_Ways:Addr
 c_Changer:Addr
 t_MOST_BAGS:Tok
structure Txt (K:PySem.W.Frag) (mg:Str→Option Value) (a:Adr):Prop where
 F_z91:Fun K "law" "law" s_z91 a.f_z91 a.d_z91
 b_z91:Binds K a.d_z91 ["_law_script"] []
 m_z91:mg "law"=some (.ref a.f_z91)
 F_z84:Fun K "_law_same" "_law_same" s_z84 a.f_z84 a.d_z84
 b_z84:Binds K a.d_z84 ["_law_found","_law_due"] []
 m_z84:mg "_law_same"=some (.ref a.f_z84)
 F_z78:Fun K "_law_whole" "_law_whole" s_z78 a.f_z78 a.d_z78
 b_z78:Binds K a.d_z78 ["_law_found"] []
 m_z78:mg "_law_whole"=some (.ref a.f_z78)
 F_z37:Fun K "_law_all_same" "_law_all_same" s_z37 a.f_z37 a.d_z37
 b_z37:Binds K a.d_z37 ["_law_found","_law_due"] []
 m_z37:mg "_law_all_same"=some (.ref a.f_z37)
 F_z79:Fun K "pay" "Rule.pay" s_z79 a.f_z79 a.d_z79
 b_z79:Binds K a.d_z79 ["self","wish"] []
 F_z28:Fun K "learn" "Filler.learn" s_z28 a.f_z28 a.d_z28
 b_z28:Binds K a.d_z28 ["self","wish"] []
 F_z0:Fun K "loads_behind" "Filler.loads_behind" s_z0 a.f_z0 a.d_z0
 b_z0:Binds K a.d_z0 ["self","size"] []
 F_z4:Fun K "price_to" "Filler.price_to" s_z4 a.f_z4 a.d_z4
 b_z4:Binds K a.d_z4 ["self","wish","after"] []
 F_z15:Fun K "target" "Filler.target" s_z15 a.f_z15 a.d_z15
 b_z15:Binds K a.d_z15 ["self","wish"] []
 F_z24:Fun K "is_wish" "Bags.is_wish" s_z24 a.f_z24 a.d_z24
 b_z24:Binds K a.d_z24 ["self","thing"] []
 F_z11:Fun K "is_from_one_to" "is_from_one_to" s_z11 a.f_z11 a.d_z11
 b_z11:Binds K a.d_z11 ["thing","most"] []
 m_z11:mg "is_from_one_to"=some (.ref a.f_z11)
 F_z6:Fun K "is_whole_number" "is_whole_number" s_z6 a.f_z6 a.d_z6
 b_z6:Binds K a.d_z6 ["thing"] []
 m_z6:mg "is_whole_number"=some (.ref a.f_z6)
 F_z33:Fun K "learn" "Keeper.learn" s_z33 a.f_z33 a.d_z33
 b_z33:Binds K a.d_z33 ["self","wish"] []
 F_z1:Fun K "row_behind" "Keeper.row_behind" s_z1 a.f_z1 a.d_z1
 b_z1:Binds K a.d_z1 ["self","wish"] []
 F_z20:Fun K "price_to" "Rule.price_to" s_z20 a.f_z20 a.d_z20
 b_z20:Binds K a.d_z20 ["self","wish","after"] []
 F_z47:Fun K "price" "Store.price" s_z47 a.f_z47 a.d_z47
 b_z47:Binds K a.d_z47 ["self","before","wish","after"] []
 F_z18:Fun K "target" "Keeper.target" s_z18 a.f_z18 a.d_z18
 b_z18:Binds K a.d_z18 ["self","wish"] []
 F_z22:Fun K "is_wish" "Store.is_wish" s_z22 a.f_z22 a.d_z22
 b_z22:Binds K a.d_z22 ["self","thing"] []
 F_z86:Fun K "is_name" "is_name" s_z86 a.f_z86 a.d_z86
 b_z86:Binds K a.d_z86 ["thing"] []
 m_z86:mg "is_name"=some (.ref a.f_z86)
 F_z13:Fun K "learn" "Changer.learn" s_z13 a.f_z13 a.d_z13
 b_z13:Binds K a.d_z13 ["self","wish"] []
 F_z2:Fun K "charged" "Changer.charged" s_z2 a.f_z2 a.d_z2
 b_z2:Binds K a.d_z2 ["self","charges"] []
 F_z59:Fun K "price" "Ways.price" s_z59 a.f_z59 a.d_z59
 b_z59:Binds K a.d_z59 ["self","before","wish","after"] []
 F_z8:Fun K "target" "Changer.target" s_z8 a.f_z8 a.d_z8
 b_z8:Binds K a.d_z8 ["self","wish"] []
 F_z36:Fun K "is_wish" "Ways.is_wish" s_z36 a.f_z36 a.d_z36
 b_z36:Binds K a.d_z36 ["self","thing"] []
 F_z71:Fun K "is_amount" "is_amount" s_z71 a.f_z71 a.d_z71
 b_z71:Binds K a.d_z71 ["thing"] []
 m_z71:mg "is_amount"=some (.ref a.f_z71)
 F_z55:Fun K "learn" "Rule.learn" s_z55 a.f_z55 a.d_z55
 b_z55:Binds K a.d_z55 ["self","wish"] []
 F_z53:Fun K "price" "Hire.price" s_z53 a.f_z53 a.d_z53
 b_z53:Binds K a.d_z53 ["self","before","wish","after"] []
 F_z26:Fun K "target" "Buyer.target" s_z26 a.f_z26 a.d_z26
 b_z26:Binds K a.d_z26 ["self","wish"] []
 F_z32:Fun K "is_wish" "Hire.is_wish" s_z32 a.f_z32 a.d_z32
 b_z32:Binds K a.d_z32 ["self","thing"] []
 F_z46:Fun K "price" "Shelf.price" s_z46 a.f_z46 a.d_z46
 b_z46:Binds K a.d_z46 ["self","before","wish","after"] []
 F_z40:Fun K "turned_pairs" "turned_pairs" s_z40 a.f_z40 a.d_z40
 b_z40:Binds K a.d_z40 ["before","after"] []
 m_z40:mg "turned_pairs"=some (.ref a.f_z40)
 F_z62:Fun K "overtakers" "overtakers" s_z62 a.f_z62 a.d_z62
 b_z62:Binds K a.d_z62 ["order","at","other"] []
 m_z62:mg "overtakers"=some (.ref a.f_z62)
 F_z31:Fun K "target" "Front.target" s_z31 a.f_z31 a.d_z31
 b_z31:Binds K a.d_z31 ["self","wish"] []
 F_z21:Fun K "is_wish" "Shelf.is_wish" s_z21 a.f_z21 a.d_z21
 b_z21:Binds K a.d_z21 ["self","thing"] []
 F_z54:Fun K "price" "Line.price" s_z54 a.f_z54 a.d_z54
 b_z54:Binds K a.d_z54 ["self","before","wish","after"] []
 F_z41:Fun K "ways_between" "ways_between" s_z41 a.f_z41 a.d_z41
 b_z41:Binds K a.d_z41 ["before","after"] []
 m_z41:mg "ways_between"=some (.ref a.f_z41)
 F_z43:Fun K "target" "Both.target" s_z43 a.f_z43 a.d_z43
 b_z43:Binds K a.d_z43 ["self","wish"] []
 F_z35:Fun K "is_wish" "Line.is_wish" s_z35 a.f_z35 a.d_z35
 b_z35:Binds K a.d_z35 ["self","thing"] []
 F_z80:Fun K "is_place" "is_place" s_z80 a.f_z80 a.d_z80
 b_z80:Binds K a.d_z80 ["thing"] []
 m_z80:mg "is_place"=some (.ref a.f_z80)
 F_z82:Fun K "_law_fits" "_law_fits" s_z82 a.f_z82 a.d_z82
 b_z82:Binds K a.d_z82 ["_law_word","_law_start_here","_law_rule","_law_pair"] []
 m_z82:mg "_law_fits"=some (.ref a.f_z82)
 F_z61:Fun K "_law_factor" "_law_factor" s_z61 a.f_z61 a.d_z61
 b_z61:Binds K a.d_z61 ["_law_word","_law_start_here"] []
 m_z61:mg "_law_factor"=some (.ref a.f_z61)
 F_z14:Fun K "factor" "Filler.factor" s_z14 a.f_z14 a.d_z14
 b_z14:Binds K a.d_z14 ["self"] []
 F_z17:Fun K "factor" "Keeper.factor" s_z17 a.f_z17 a.d_z17
 b_z17:Binds K a.d_z17 ["self"] []
 F_z7:Fun K "factor" "Changer.factor" s_z7 a.f_z7 a.d_z7
 b_z7:Binds K a.d_z7 ["self"] []
 F_z25:Fun K "factor" "Buyer.factor" s_z25 a.f_z25 a.d_z25
 b_z25:Binds K a.d_z25 ["self"] []
 F_z30:Fun K "factor" "Front.factor" s_z30 a.f_z30 a.d_z30
 b_z30:Binds K a.d_z30 ["self"] []
 F_z42:Fun K "factor" "Both.factor" s_z42 a.f_z42 a.d_z42
 b_z42:Binds K a.d_z42 ["self"] []
 F_z68:Fun K "paid" "Rule.paid" s_z68 a.f_z68 a.d_z68
 b_z68:Binds K a.d_z68 ["self"] []
 F_z56:Fun K "state" "Rule.state" s_z56 a.f_z56 a.d_z56
 b_z56:Binds K a.d_z56 ["self"] []
 F_z39:Fun K "_law_of_class" "_law_of_class" s_z39 a.f_z39 a.d_z39
 b_z39:Binds K a.d_z39 ["_law_word","_law_rule"] []
 m_z39:mg "_law_of_class"=some (.ref a.f_z39)
 F_z12:Fun K "is_state" "Bags.is_state" s_z12 a.f_z12 a.d_z12
 b_z12:Binds K a.d_z12 ["self","thing"] []
 F_z10:Fun K "is_state" "Store.is_state" s_z10 a.f_z10 a.d_z10
 b_z10:Binds K a.d_z10 ["self","thing"] []
 F_z70:Fun K "are_names" "are_names" s_z70 a.f_z70 a.d_z70
 b_z70:Binds K a.d_z70 ["thing"] []
 m_z70:mg "are_names"=some (.ref a.f_z70)
 F_z23:Fun K "is_state" "Ways.is_state" s_z23 a.f_z23 a.d_z23
 b_z23:Binds K a.d_z23 ["self","thing"] []
 F_z16:Fun K "is_state" "Hire.is_state" s_z16 a.f_z16 a.d_z16
 b_z16:Binds K a.d_z16 ["self","thing"] []
 F_z9:Fun K "is_state" "Shelf.is_state" s_z9 a.f_z9 a.d_z9
 b_z9:Binds K a.d_z9 ["self","thing"] []
 F_z19:Fun K "is_state" "Line.is_state" s_z19 a.f_z19 a.d_z19
 b_z19:Binds K a.d_z19 ["self","thing"] []
 F_z38:Fun K "_law_in_world" "_law_in_world" s_z38 a.f_z38 a.d_z38
 b_z38:Binds K a.d_z38 ["_law_word","_law_world"] []
 m_z38:mg "_law_in_world"=some (.ref a.f_z38)
 F_z72:Fun K "_law_begin" "_law_begin" s_z72 a.f_z72 a.d_z72
 b_z72:Binds K a.d_z72 ["_law_word","_law_start_here"] []
 m_z72:mg "_law_begin"=some (.ref a.f_z72)
 F_z77:Fun K "_law_twins" "_law_twins" s_z77 a.f_z77 a.d_z77
 b_z77:Binds K a.d_z77 ["_law_word","_law_rule","_law_twin"] []
 m_z77:mg "_law_twins"=some (.ref a.f_z77)
 F_z29:Fun K "loads" "Filler.loads" s_z29 a.f_z29 a.d_z29
 b_z29:Binds K a.d_z29 ["self"] []
 F_z34:Fun K "pages" "Keeper.pages" s_z34 a.f_z34 a.d_z34
 b_z34:Binds K a.d_z34 ["self"] []
 F_z3:Fun K "numbers" "Changer.numbers" s_z3 a.f_z3 a.d_z3
 b_z3:Binds K a.d_z3 ["self"] []
 F_z83:Fun K "_law_pays" "_law_pays" s_z83 a.f_z83 a.d_z83
 b_z83:Binds K a.d_z83 ["_law_rule","_law_world","_law_wish_here"] []
 m_z83:mg "_law_pays"=some (.ref a.f_z83)
 F_z50:Fun K "price" "Bags.price" s_z50 a.f_z50 a.d_z50
 b_z50:Binds K a.d_z50 ["self","before","wish","after"] []
 F_z89:Fun K "filled" "filled" s_z89 a.f_z89 a.d_z89
 b_z89:Binds K a.d_z89 ["loads","at","size"] []
 m_z89:mg "filled"=some (.ref a.f_z89)
 F_z90:Fun K "opened" "opened" s_z90 a.f_z90 a.d_z90
 b_z90:Binds K a.d_z90 ["loads","size"] []
 m_z90:mg "opened"=some (.ref a.f_z90)
 F_z48:Fun K "_law_by_hand" "_law_by_hand" s_z48 a.f_z48 a.d_z48
 b_z48:Binds K a.d_z48 ["_law_word","_law_start_here"] []
 m_z48:mg "_law_by_hand"=some (.ref a.f_z48)
 F_z44:Fun K "__init__" "Filler.__init__" s_z44 a.f_z44 a.d_z44
 b_z44:Binds K a.d_z44 ["self","room"] []
 F_z67:Fun K "__init__" "Rule.__init__" s_z67 a.f_z67 a.d_z67
 b_z67:Binds K a.d_z67 ["self","world","start"] []
 F_z63:Fun K "__init__" "Bags.__init__" s_z63 a.f_z63 a.d_z63
 b_z63:Binds K a.d_z63 ["self","room"] []
 F_z45:Fun K "__init__" "Keeper.__init__" s_z45 a.f_z45 a.d_z45
 b_z45:Binds K a.d_z45 ["self","pages"] []
 F_z58:Fun K "__init__" "Store.__init__" s_z58 a.f_z58 a.d_z58
 b_z58:Binds K a.d_z58 ["self","many"] []
 F_z5:Fun K "is_row_of_names" "is_row_of_names" s_z5 a.f_z5 a.d_z5
 b_z5:Binds K a.d_z5 ["thing"] []
 m_z5:mg "is_row_of_names"=some (.ref a.f_z5)
 F_z27:FunD K "__init__" "Changer.__init__" s_z27 a.f_z27 a.d_z27 a.e_Changer_init
 b_z27:Binds K a.d_z27 ["self","many","toll","start"] []
 F_z69:Fun K "__init__" "Ways.__init__" s_z69 a.f_z69 a.d_z69
 b_z69:Binds K a.d_z69 ["self","many","toll"] []
 F_z51:Fun K "__init__" "Buyer.__init__" s_z51 a.f_z51 a.d_z51
 b_z51:Binds K a.d_z51 ["self","whole"] []
 F_z65:Fun K "__init__" "Hire.__init__" s_z65 a.f_z65 a.d_z65
 b_z65:Binds K a.d_z65 ["self","whole"] []
 F_z52:Fun K "__init__" "Front.__init__" s_z52 a.f_z52 a.d_z52
 b_z52:Binds K a.d_z52 ["self","start"] []
 F_z57:Fun K "__init__" "Shelf.__init__" s_z57 a.f_z57 a.d_z57
 b_z57:Binds K a.d_z57 ["self","things"] []
 F_z64:Fun K "__init__" "Both.__init__" s_z64 a.f_z64 a.d_z64
 b_z64:Binds K a.d_z64 ["self","start"] []
 F_z87:Fun K "line_of" "line_of" s_z87 a.f_z87 a.d_z87
 b_z87:Binds K a.d_z87 ["start"] []
 m_z87:mg "line_of"=some (.ref a.f_z87)
 F_z66:Fun K "__init__" "Line.__init__" s_z66 a.f_z66 a.d_z66
 b_z66:Binds K a.d_z66 ["self","many"] []
 F_z49:Fun K "world_start" "world_start" s_z49 a.f_z49 a.d_z49
 b_z49:Binds K a.d_z49 ["word","start"] []
 m_z49:mg "world_start"=some (.ref a.f_z49)
 F_z88:Fun K "rule_of" "rule_of" s_z88 a.f_z88 a.d_z88
 b_z88:Binds K a.d_z88 ["word","start"] []
 m_z88:mg "rule_of"=some (.ref a.f_z88)
 F_z85:Fun K "_law_wish" "_law_wish" s_z85 a.f_z85 a.d_z85
 b_z85:Binds K a.d_z85 ["_law_word","_law_start_here","_law_cell_here","_law_k"] []
 m_z85:mg "_law_wish"=some (.ref a.f_z85)
 F_z60:Fun K "_law_amount" "_law_amount" s_z60 a.f_z60 a.d_z60
 b_z60:Binds K a.d_z60 ["_law_cell_here","_law_k"] []
 m_z60:mg "_law_amount"=some (.ref a.f_z60)
 F_z73:Fun K "_law_mixed" "_law_mixed" s_z73 a.f_z73 a.d_z73
 b_z73:Binds K a.d_z73 ["_law_cell_here","_law_k"] []
 m_z73:mg "_law_mixed"=some (.ref a.f_z73)
 F_z74:Fun K "_law_names" "_law_names" s_z74 a.f_z74 a.d_z74
 b_z74:Binds K a.d_z74 ["_law_number","_law_many"] []
 m_z74:mg "_law_names"=some (.ref a.f_z74)
 F_z75:Fun K "_law_place" "_law_place" s_z75 a.f_z75 a.d_z75
 b_z75:Binds K a.d_z75 ["_law_cell_here","_law_k"] []
 m_z75:mg "_law_place"=some (.ref a.f_z75)
 F_z76:Fun K "_law_start" "_law_start" s_z76 a.f_z76 a.d_z76
 b_z76:Binds K a.d_z76 ["_law_script"] []
 m_z76:mg "_law_start"=some (.ref a.f_z76)
 F_z81:Fun K "_law_cell" "_law_cell" s_z81 a.f_z81 a.d_z81
 b_z81:Binds K a.d_z81 ["_law_script","_law_k"] []
 m_z81:mg "_law_cell"=some (.ref a.f_z81)
 m_World:mg "World"=some (.ref a.c_World)
 m_Rule:mg "Rule"=some (.ref a.c_Rule)
 m_Bound:mg "Bound"=some (.ref a.c_Bound)
 cm_Bound_init:CMeth K a.c_Bound "__init__" a.f_z67
 m_Bags:mg "Bags"=some (.ref a.c_Bags)
 cl_Bags:Cls K a.c_Bags
 mk_Bags:Mk K a.c_Bags a.f_z63
 na_Bags_room:NoAttr K a.c_Bags "room"
 ic_Bags_Bags:IsC K a.c_Bags a.c_Bags
 ic_Bags_World:IsC K a.c_Bags a.c_World
 me_Bags_is_state:Meth K a.c_Bags "is_state" a.f_z12
 me_Bags_is_wish:Meth K a.c_Bags "is_wish" a.f_z24
 me_Bags_price:Meth K a.c_Bags "price" a.f_z50
 m_Filler:mg "Filler"=some (.ref a.c_Filler)
 cl_Filler:Cls K a.c_Filler
 mk_Filler:Mk K a.c_Filler a.f_z44
 na_Filler_packed:NoAttr K a.c_Filler "packed"
 na_Filler_spent:NoAttr K a.c_Filler "spent"
 na_Filler_standing:NoAttr K a.c_Filler "standing"
 na_Filler_world:NoAttr K a.c_Filler "world"
 ic_Filler_Filler:IsC K a.c_Filler a.c_Filler
 ic_Filler_Bound:IsC K a.c_Filler a.c_Bound
 ic_Filler_Rule:IsC K a.c_Filler a.c_Rule
 me_Filler_factor:Meth K a.c_Filler "factor" a.f_z14
 me_Filler_learn:Meth K a.c_Filler "learn" a.f_z28
 me_Filler_loads:Meth K a.c_Filler "loads" a.f_z29
 me_Filler_loads_behind:Meth K a.c_Filler "loads_behind" a.f_z0
 me_Filler_paid:Meth K a.c_Filler "paid" a.f_z68
 me_Filler_pay:Meth K a.c_Filler "pay" a.f_z79
 me_Filler_price_to:Meth K a.c_Filler "price_to" a.f_z4
 me_Filler_state:Meth K a.c_Filler "state" a.f_z56
 me_Filler_target:Meth K a.c_Filler "target" a.f_z15
 m_Hire:mg "Hire"=some (.ref a.c_Hire)
 cl_Hire:Cls K a.c_Hire
 mk_Hire:Mk K a.c_Hire a.f_z65
 na_Hire_whole:NoAttr K a.c_Hire "whole"
 ic_Hire_Hire:IsC K a.c_Hire a.c_Hire
 ic_Hire_World:IsC K a.c_Hire a.c_World
 me_Hire_is_state:Meth K a.c_Hire "is_state" a.f_z16
 me_Hire_is_wish:Meth K a.c_Hire "is_wish" a.f_z32
 me_Hire_price:Meth K a.c_Hire "price" a.f_z53
 m_Buyer:mg "Buyer"=some (.ref a.c_Buyer)
 cl_Buyer:Cls K a.c_Buyer
 mk_Buyer:Mk K a.c_Buyer a.f_z51
 na_Buyer_spent:NoAttr K a.c_Buyer "spent"
 na_Buyer_standing:NoAttr K a.c_Buyer "standing"
 na_Buyer_world:NoAttr K a.c_Buyer "world"
 ic_Buyer_Buyer:IsC K a.c_Buyer a.c_Buyer
 ic_Buyer_Bound:IsC K a.c_Buyer a.c_Bound
 ic_Buyer_Rule:IsC K a.c_Buyer a.c_Rule
 me_Buyer_factor:Meth K a.c_Buyer "factor" a.f_z25
 me_Buyer_learn:Meth K a.c_Buyer "learn" a.f_z55
 me_Buyer_paid:Meth K a.c_Buyer "paid" a.f_z68
 me_Buyer_pay:Meth K a.c_Buyer "pay" a.f_z79
 me_Buyer_price_to:Meth K a.c_Buyer "price_to" a.f_z20
 me_Buyer_state:Meth K a.c_Buyer "state" a.f_z56
 me_Buyer_target:Meth K a.c_Buyer "target" a.f_z26
 m_Line:mg "Line"=some (.ref a.c_Line)
 cl_Line:Cls K a.c_Line
 mk_Line:Mk K a.c_Line a.f_z66
 na_Line_many:NoAttr K a.c_Line "many"
 ic_Line_Line:IsC K a.c_Line a.c_Line
 ic_Line_World:IsC K a.c_Line a.c_World
 me_Line_is_state:Meth K a.c_Line "is_state" a.f_z19
 me_Line_is_wish:Meth K a.c_Line "is_wish" a.f_z35
 me_Line_price:Meth K a.c_Line "price" a.f_z54
 m_Both:mg "Both"=some (.ref a.c_Both)
 cl_Both:Cls K a.c_Both
 mk_Both:Mk K a.c_Both a.f_z64
 na_Both_spent:NoAttr K a.c_Both "spent"
 na_Both_standing:NoAttr K a.c_Both "standing"
 na_Both_world:NoAttr K a.c_Both "world"
 ic_Both_Both:IsC K a.c_Both a.c_Both
 ic_Both_Bound:IsC K a.c_Both a.c_Bound
 ic_Both_Rule:IsC K a.c_Both a.c_Rule
 me_Both_factor:Meth K a.c_Both "factor" a.f_z42
 me_Both_learn:Meth K a.c_Both "learn" a.f_z55
 me_Both_paid:Meth K a.c_Both "paid" a.f_z68
 me_Both_pay:Meth K a.c_Both "pay" a.f_z79
 me_Both_price_to:Meth K a.c_Both "price_to" a.f_z20
 me_Both_state:Meth K a.c_Both "state" a.f_z56
 me_Both_target:Meth K a.c_Both "target" a.f_z43
 m_Shelf:mg "Shelf"=some (.ref a.c_Shelf)
 cl_Shelf:Cls K a.c_Shelf
 mk_Shelf:Mk K a.c_Shelf a.f_z57
 na_Shelf_things:NoAttr K a.c_Shelf "things"
 ic_Shelf_Shelf:IsC K a.c_Shelf a.c_Shelf
 ic_Shelf_World:IsC K a.c_Shelf a.c_World
 me_Shelf_is_state:Meth K a.c_Shelf "is_state" a.f_z9
 me_Shelf_is_wish:Meth K a.c_Shelf "is_wish" a.f_z21
 me_Shelf_price:Meth K a.c_Shelf "price" a.f_z46
 m_Front:mg "Front"=some (.ref a.c_Front)
 cl_Front:Cls K a.c_Front
 mk_Front:Mk K a.c_Front a.f_z52
 na_Front_spent:NoAttr K a.c_Front "spent"
 na_Front_standing:NoAttr K a.c_Front "standing"
 na_Front_world:NoAttr K a.c_Front "world"
 ic_Front_Front:IsC K a.c_Front a.c_Front
 ic_Front_Bound:IsC K a.c_Front a.c_Bound
 ic_Front_Rule:IsC K a.c_Front a.c_Rule
 me_Front_factor:Meth K a.c_Front "factor" a.f_z30
 me_Front_learn:Meth K a.c_Front "learn" a.f_z55
 me_Front_paid:Meth K a.c_Front "paid" a.f_z68
 me_Front_pay:Meth K a.c_Front "pay" a.f_z79
 me_Front_price_to:Meth K a.c_Front "price_to" a.f_z20
 me_Front_state:Meth K a.c_Front "state" a.f_z56
 me_Front_target:Meth K a.c_Front "target" a.f_z31
 m_Store:mg "Store"=some (.ref a.c_Store)
 cl_Store:Cls K a.c_Store
 mk_Store:Mk K a.c_Store a.f_z58
 na_Store_many:NoAttr K a.c_Store "many"
 ic_Store_Store:IsC K a.c_Store a.c_Store
 ic_Store_World:IsC K a.c_Store a.c_World
 me_Store_is_state:Meth K a.c_Store "is_state" a.f_z10
 me_Store_is_wish:Meth K a.c_Store "is_wish" a.f_z22
 me_Store_price:Meth K a.c_Store "price" a.f_z47
 m_Keeper:mg "Keeper"=some (.ref a.c_Keeper)
 cl_Keeper:Cls K a.c_Keeper
 mk_Keeper:Mk K a.c_Keeper a.f_z45
 na_Keeper_row:NoAttr K a.c_Keeper "row"
 na_Keeper_spent:NoAttr K a.c_Keeper "spent"
 na_Keeper_standing:NoAttr K a.c_Keeper "standing"
 na_Keeper_world:NoAttr K a.c_Keeper "world"
 ic_Keeper_Keeper:IsC K a.c_Keeper a.c_Keeper
 ic_Keeper_Bound:IsC K a.c_Keeper a.c_Bound
 ic_Keeper_Rule:IsC K a.c_Keeper a.c_Rule
 me_Keeper_factor:Meth K a.c_Keeper "factor" a.f_z17
 me_Keeper_learn:Meth K a.c_Keeper "learn" a.f_z33
 me_Keeper_pages:Meth K a.c_Keeper "pages" a.f_z34
 me_Keeper_paid:Meth K a.c_Keeper "paid" a.f_z68
 me_Keeper_pay:Meth K a.c_Keeper "pay" a.f_z79
 me_Keeper_price_to:Meth K a.c_Keeper "price_to" a.f_z20
 me_Keeper_row_behind:Meth K a.c_Keeper "row_behind" a.f_z1
 me_Keeper_state:Meth K a.c_Keeper "state" a.f_z56
 me_Keeper_target:Meth K a.c_Keeper "target" a.f_z18
 m_Ways:mg "Ways"=some (.ref a.c_Ways)
 cl_Ways:Cls K a.c_Ways
 mk_Ways:Mk K a.c_Ways a.f_z69
 na_Ways_many:NoAttr K a.c_Ways "many"
 na_Ways_toll:NoAttr K a.c_Ways "toll"
 ic_Ways_Ways:IsC K a.c_Ways a.c_Ways
 ic_Ways_World:IsC K a.c_Ways a.c_World
 me_Ways_is_state:Meth K a.c_Ways "is_state" a.f_z23
 me_Ways_is_wish:Meth K a.c_Ways "is_wish" a.f_z36
 me_Ways_price:Meth K a.c_Ways "price" a.f_z59
 m_Changer:mg "Changer"=some (.ref a.c_Changer)
 cl_Changer:Cls K a.c_Changer
 mk_Changer:Mk K a.c_Changer a.f_z27
 na_Changer_reckoned:NoAttr K a.c_Changer "reckoned"
 na_Changer_spent:NoAttr K a.c_Changer "spent"
 na_Changer_standing:NoAttr K a.c_Changer "standing"
 na_Changer_world:NoAttr K a.c_Changer "world"
 ic_Changer_Changer:IsC K a.c_Changer a.c_Changer
 ic_Changer_Bound:IsC K a.c_Changer a.c_Bound
 ic_Changer_Rule:IsC K a.c_Changer a.c_Rule
 me_Changer_charged:Meth K a.c_Changer "charged" a.f_z2
 me_Changer_factor:Meth K a.c_Changer "factor" a.f_z7
 me_Changer_learn:Meth K a.c_Changer "learn" a.f_z13
 me_Changer_numbers:Meth K a.c_Changer "numbers" a.f_z3
 me_Changer_paid:Meth K a.c_Changer "paid" a.f_z68
 me_Changer_pay:Meth K a.c_Changer "pay" a.f_z79
 me_Changer_price_to:Meth K a.c_Changer "price_to" a.f_z20
 me_Changer_state:Meth K a.c_Changer "state" a.f_z56
 me_Changer_target:Meth K a.c_Changer "target" a.f_z8
 n_abs:mg "abs"=none
 n_all:mg "all"=none
 n_bool:mg "bool"=none
 n_int:mg "int"=none
 n_isinstance:mg "isinstance"=none
 n_len:mg "len"=none
 n_list:mg "list"=none
 n_max:mg "max"=none
 n_min:mg "min"=none
 n_range:mg "range"=none
 n_set:mg "set"=none
 n_sorted:mg "sorted"=none
 n_str:mg "str"=none
 n_sum:mg "sum"=none
 n_tuple:mg "tuple"=none
 n_zip:mg "zip"=none
 m_MOST_BAGS:mg "MOST_BAGS"=some (.int 500 a.t_MOST_BAGS)
theorem all_mk {l:PySem.W.OpenLaw}{w:World}{K:PySem.W.Frag}{h:Heap}{mg:Str→Option Value}{fa:Addr} (sp:PySem.W.Frag→Sp) (ok:∀ (a:Adr) (base:Heap),Txt K mg a→FnOk l.prog w K mg base (CXU l.prog w) 14 a.f_z91 a.d_z91 ["_law_script"] (sp K)) (X:K.In h) (G:h.Ns mainGlobals mg) (hfa:mg "law"=some (.ref fa))
  {f_z91 f_z84 f_z78 f_z37 f_z79 f_z28 f_z0 f_z4 f_z15 f_z24 f_z11 f_z6 f_z33 f_z1 f_z20 f_z47 f_z18 f_z22 f_z86 f_z13 f_z2 f_z59 f_z8 f_z36 f_z71 f_z55 f_z53 f_z26 f_z32 f_z46 f_z40 f_z62 f_z31 f_z21 f_z54 f_z41 f_z43 f_z35 f_z80 f_z82 f_z61 f_z14 f_z17 f_z7 f_z25 f_z30 f_z42 f_z68 f_z56 f_z39 f_z12 f_z10 f_z70 f_z23 f_z16 f_z9 f_z19 f_z38 f_z72 f_z77 f_z29 f_z34 f_z3 f_z83 f_z50 f_z89 f_z90 f_z48 f_z44 f_z67 f_z63 f_z45 f_z58 f_z5 f_z27 f_z69 f_z51 f_z65 f_z52 f_z57 f_z64 f_z87 f_z66 f_z49 f_z88 f_z85 f_z60 f_z73 f_z74 f_z75 f_z76 f_z81 c_World c_Rule c_Bound c_Bags c_Filler c_Hire c_Buyer c_Line c_Both c_Shelf c_Front c_Store c_Keeper c_Ways c_Changer:Addr}
  {dk_Changer_init_0:Tok}
  {t_MOST_BAGS:Tok}
  (aC_World:NsC K "World" c_World)
  (aC_Rule:NsC K "Rule" c_Rule)
  (aC_Bound:NsC K "Bound" c_Bound)
  (aC_Bags:NsC K "Bags" c_Bags)
  (aC_Filler:NsC K "Filler" c_Filler)
  (aC_Hire:NsC K "Hire" c_Hire)
  (aC_Buyer:NsC K "Buyer" c_Buyer)
  (aC_Line:NsC K "Line" c_Line)
  (aC_Both:NsC K "Both" c_Both)
  (aC_Shelf:NsC K "Shelf" c_Shelf)
  (aC_Front:NsC K "Front" c_Front)
  (aC_Store:NsC K "Store" c_Store)
  (aC_Keeper:NsC K "Keeper" c_Keeper)
  (aC_Ways:NsC K "Ways" c_Ways)
  (aC_Changer:NsC K "Changer" c_Changer)
  (l_z91:FnN K "law" s_z91 f_z91)
  (l_z84:FnN K "_law_same" s_z84 f_z84)
  (l_z78:FnN K "_law_whole" s_z78 f_z78)
  (l_z37:FnN K "_law_all_same" s_z37 f_z37)
  (l_z79:FnM K c_Rule "pay" "Rule.pay" s_z79 f_z79)
  (l_z28:FnM K c_Filler "learn" "Filler.learn" s_z28 f_z28)
  (l_z0:FnM K c_Filler "loads_behind" "Filler.loads_behind" s_z0 f_z0)
  (l_z4:FnM K c_Filler "price_to" "Filler.price_to" s_z4 f_z4)
  (l_z15:FnM K c_Filler "target" "Filler.target" s_z15 f_z15)
  (l_z24:FnM K c_Bags "is_wish" "Bags.is_wish" s_z24 f_z24)
  (l_z11:FnN K "is_from_one_to" s_z11 f_z11)
  (l_z6:FnN K "is_whole_number" s_z6 f_z6)
  (l_z33:FnM K c_Keeper "learn" "Keeper.learn" s_z33 f_z33)
  (l_z1:FnM K c_Keeper "row_behind" "Keeper.row_behind" s_z1 f_z1)
  (l_z20:FnM K c_Rule "price_to" "Rule.price_to" s_z20 f_z20)
  (l_z47:FnM K c_Store "price" "Store.price" s_z47 f_z47)
  (l_z18:FnM K c_Keeper "target" "Keeper.target" s_z18 f_z18)
  (l_z22:FnM K c_Store "is_wish" "Store.is_wish" s_z22 f_z22)
  (l_z86:FnN K "is_name" s_z86 f_z86)
  (l_z13:FnM K c_Changer "learn" "Changer.learn" s_z13 f_z13)
  (l_z2:FnM K c_Changer "charged" "Changer.charged" s_z2 f_z2)
  (l_z59:FnM K c_Ways "price" "Ways.price" s_z59 f_z59)
  (l_z8:FnM K c_Changer "target" "Changer.target" s_z8 f_z8)
  (l_z36:FnM K c_Ways "is_wish" "Ways.is_wish" s_z36 f_z36)
  (l_z71:FnN K "is_amount" s_z71 f_z71)
  (l_z55:FnM K c_Rule "learn" "Rule.learn" s_z55 f_z55)
  (l_z53:FnM K c_Hire "price" "Hire.price" s_z53 f_z53)
  (l_z26:FnM K c_Buyer "target" "Buyer.target" s_z26 f_z26)
  (l_z32:FnM K c_Hire "is_wish" "Hire.is_wish" s_z32 f_z32)
  (l_z46:FnM K c_Shelf "price" "Shelf.price" s_z46 f_z46)
  (l_z40:FnN K "turned_pairs" s_z40 f_z40)
  (l_z62:FnN K "overtakers" s_z62 f_z62)
  (l_z31:FnM K c_Front "target" "Front.target" s_z31 f_z31)
  (l_z21:FnM K c_Shelf "is_wish" "Shelf.is_wish" s_z21 f_z21)
  (l_z54:FnM K c_Line "price" "Line.price" s_z54 f_z54)
  (l_z41:FnN K "ways_between" s_z41 f_z41)
  (l_z43:FnM K c_Both "target" "Both.target" s_z43 f_z43)
  (l_z35:FnM K c_Line "is_wish" "Line.is_wish" s_z35 f_z35)
  (l_z80:FnN K "is_place" s_z80 f_z80)
  (l_z82:FnN K "_law_fits" s_z82 f_z82)
  (l_z61:FnN K "_law_factor" s_z61 f_z61)
  (l_z14:FnM K c_Filler "factor" "Filler.factor" s_z14 f_z14)
  (l_z17:FnM K c_Keeper "factor" "Keeper.factor" s_z17 f_z17)
  (l_z7:FnM K c_Changer "factor" "Changer.factor" s_z7 f_z7)
  (l_z25:FnM K c_Buyer "factor" "Buyer.factor" s_z25 f_z25)
  (l_z30:FnM K c_Front "factor" "Front.factor" s_z30 f_z30)
  (l_z42:FnM K c_Both "factor" "Both.factor" s_z42 f_z42)
  (l_z68:FnM K c_Rule "paid" "Rule.paid" s_z68 f_z68)
  (l_z56:FnM K c_Rule "state" "Rule.state" s_z56 f_z56)
  (l_z39:FnN K "_law_of_class" s_z39 f_z39)
  (l_z12:FnM K c_Bags "is_state" "Bags.is_state" s_z12 f_z12)
  (l_z10:FnM K c_Store "is_state" "Store.is_state" s_z10 f_z10)
  (l_z70:FnN K "are_names" s_z70 f_z70)
  (l_z23:FnM K c_Ways "is_state" "Ways.is_state" s_z23 f_z23)
  (l_z16:FnM K c_Hire "is_state" "Hire.is_state" s_z16 f_z16)
  (l_z9:FnM K c_Shelf "is_state" "Shelf.is_state" s_z9 f_z9)
  (l_z19:FnM K c_Line "is_state" "Line.is_state" s_z19 f_z19)
  (l_z38:FnN K "_law_in_world" s_z38 f_z38)
  (l_z72:FnN K "_law_begin" s_z72 f_z72)
  (l_z77:FnN K "_law_twins" s_z77 f_z77)
  (l_z29:FnM K c_Filler "loads" "Filler.loads" s_z29 f_z29)
  (l_z34:FnM K c_Keeper "pages" "Keeper.pages" s_z34 f_z34)
  (l_z3:FnM K c_Changer "numbers" "Changer.numbers" s_z3 f_z3)
  (l_z83:FnN K "_law_pays" s_z83 f_z83)
  (l_z50:FnM K c_Bags "price" "Bags.price" s_z50 f_z50)
  (l_z89:FnN K "filled" s_z89 f_z89)
  (l_z90:FnN K "opened" s_z90 f_z90)
  (l_z48:FnN K "_law_by_hand" s_z48 f_z48)
  (l_z44:FnM K c_Filler "__init__" "Filler.__init__" s_z44 f_z44)
  (l_z67:FnM K c_Rule "__init__" "Rule.__init__" s_z67 f_z67)
  (l_z63:FnM K c_Bags "__init__" "Bags.__init__" s_z63 f_z63)
  (l_z45:FnM K c_Keeper "__init__" "Keeper.__init__" s_z45 f_z45)
  (l_z58:FnM K c_Store "__init__" "Store.__init__" s_z58 f_z58)
  (l_z5:FnN K "is_row_of_names" s_z5 f_z5)
  (l_z27:PySem.W.findIn K (.ref c_Changer) "__init__"=some (some (.ref f_z27))∧∃ fd,FunD K "__init__" "Changer.__init__" s_z27 f_z27 fd [.int 0 dk_Changer_init_0])
  (l_z69:FnM K c_Ways "__init__" "Ways.__init__" s_z69 f_z69)
  (l_z51:FnM K c_Buyer "__init__" "Buyer.__init__" s_z51 f_z51)
  (l_z65:FnM K c_Hire "__init__" "Hire.__init__" s_z65 f_z65)
  (l_z52:FnM K c_Front "__init__" "Front.__init__" s_z52 f_z52)
  (l_z57:FnM K c_Shelf "__init__" "Shelf.__init__" s_z57 f_z57)
  (l_z64:FnM K c_Both "__init__" "Both.__init__" s_z64 f_z64)
  (l_z87:FnN K "line_of" s_z87 f_z87)
  (l_z66:FnM K c_Line "__init__" "Line.__init__" s_z66 f_z66)
  (l_z49:FnN K "world_start" s_z49 f_z49)
  (l_z88:FnN K "rule_of" s_z88 f_z88)
  (l_z85:FnN K "_law_wish" s_z85 f_z85)
  (l_z60:FnN K "_law_amount" s_z60 f_z60)
  (l_z73:FnN K "_law_mixed" s_z73 f_z73)
  (l_z74:FnN K "_law_names" s_z74 f_z74)
  (l_z75:FnN K "_law_place" s_z75 f_z75)
  (l_z76:FnN K "_law_start" s_z76 f_z76)
  (l_z81:FnN K "_law_cell" s_z81 f_z81)
  (cm_Bound_init:CMeth K c_Bound "__init__" f_z67)
  (cl_Bags:Cls K c_Bags)
  (mk_Bags:Mk K c_Bags f_z63)
  (na_Bags_room:NoAttr K c_Bags "room")
  (ic_Bags_Bags:IsC K c_Bags c_Bags)
  (ic_Bags_World:IsC K c_Bags c_World)
  (me_Bags_is_state:Meth K c_Bags "is_state" f_z12)
  (me_Bags_is_wish:Meth K c_Bags "is_wish" f_z24)
  (me_Bags_price:Meth K c_Bags "price" f_z50)
  (cl_Filler:Cls K c_Filler)
  (mk_Filler:Mk K c_Filler f_z44)
  (na_Filler_packed:NoAttr K c_Filler "packed")
  (na_Filler_spent:NoAttr K c_Filler "spent")
  (na_Filler_standing:NoAttr K c_Filler "standing")
  (na_Filler_world:NoAttr K c_Filler "world")
  (ic_Filler_Filler:IsC K c_Filler c_Filler)
  (ic_Filler_Bound:IsC K c_Filler c_Bound)
  (ic_Filler_Rule:IsC K c_Filler c_Rule)
  (me_Filler_factor:Meth K c_Filler "factor" f_z14)
  (me_Filler_learn:Meth K c_Filler "learn" f_z28)
  (me_Filler_loads:Meth K c_Filler "loads" f_z29)
  (me_Filler_loads_behind:Meth K c_Filler "loads_behind" f_z0)
  (me_Filler_paid:Meth K c_Filler "paid" f_z68)
  (me_Filler_pay:Meth K c_Filler "pay" f_z79)
  (me_Filler_price_to:Meth K c_Filler "price_to" f_z4)
  (me_Filler_state:Meth K c_Filler "state" f_z56)
  (me_Filler_target:Meth K c_Filler "target" f_z15)
  (cl_Hire:Cls K c_Hire)
  (mk_Hire:Mk K c_Hire f_z65)
  (na_Hire_whole:NoAttr K c_Hire "whole")
  (ic_Hire_Hire:IsC K c_Hire c_Hire)
  (ic_Hire_World:IsC K c_Hire c_World)
  (me_Hire_is_state:Meth K c_Hire "is_state" f_z16)
  (me_Hire_is_wish:Meth K c_Hire "is_wish" f_z32)
  (me_Hire_price:Meth K c_Hire "price" f_z53)
  (cl_Buyer:Cls K c_Buyer)
  (mk_Buyer:Mk K c_Buyer f_z51)
  (na_Buyer_spent:NoAttr K c_Buyer "spent")
  (na_Buyer_standing:NoAttr K c_Buyer "standing")
  (na_Buyer_world:NoAttr K c_Buyer "world")
  (ic_Buyer_Buyer:IsC K c_Buyer c_Buyer)
  (ic_Buyer_Bound:IsC K c_Buyer c_Bound)
  (ic_Buyer_Rule:IsC K c_Buyer c_Rule)
  (me_Buyer_factor:Meth K c_Buyer "factor" f_z25)
  (me_Buyer_learn:Meth K c_Buyer "learn" f_z55)
  (me_Buyer_paid:Meth K c_Buyer "paid" f_z68)
  (me_Buyer_pay:Meth K c_Buyer "pay" f_z79)
  (me_Buyer_price_to:Meth K c_Buyer "price_to" f_z20)
  (me_Buyer_state:Meth K c_Buyer "state" f_z56)
  (me_Buyer_target:Meth K c_Buyer "target" f_z26)
  (cl_Line:Cls K c_Line)
  (mk_Line:Mk K c_Line f_z66)
  (na_Line_many:NoAttr K c_Line "many")
  (ic_Line_Line:IsC K c_Line c_Line)
  (ic_Line_World:IsC K c_Line c_World)
  (me_Line_is_state:Meth K c_Line "is_state" f_z19)
  (me_Line_is_wish:Meth K c_Line "is_wish" f_z35)
  (me_Line_price:Meth K c_Line "price" f_z54)
  (cl_Both:Cls K c_Both)
  (mk_Both:Mk K c_Both f_z64)
  (na_Both_spent:NoAttr K c_Both "spent")
  (na_Both_standing:NoAttr K c_Both "standing")
  (na_Both_world:NoAttr K c_Both "world")
  (ic_Both_Both:IsC K c_Both c_Both)
  (ic_Both_Bound:IsC K c_Both c_Bound)
  (ic_Both_Rule:IsC K c_Both c_Rule)
  (me_Both_factor:Meth K c_Both "factor" f_z42)
  (me_Both_learn:Meth K c_Both "learn" f_z55)
  (me_Both_paid:Meth K c_Both "paid" f_z68)
  (me_Both_pay:Meth K c_Both "pay" f_z79)
  (me_Both_price_to:Meth K c_Both "price_to" f_z20)
  (me_Both_state:Meth K c_Both "state" f_z56)
  (me_Both_target:Meth K c_Both "target" f_z43)
  (cl_Shelf:Cls K c_Shelf)
  (mk_Shelf:Mk K c_Shelf f_z57)
  (na_Shelf_things:NoAttr K c_Shelf "things")
  (ic_Shelf_Shelf:IsC K c_Shelf c_Shelf)
  (ic_Shelf_World:IsC K c_Shelf c_World)
  (me_Shelf_is_state:Meth K c_Shelf "is_state" f_z9)
  (me_Shelf_is_wish:Meth K c_Shelf "is_wish" f_z21)
  (me_Shelf_price:Meth K c_Shelf "price" f_z46)
  (cl_Front:Cls K c_Front)
  (mk_Front:Mk K c_Front f_z52)
  (na_Front_spent:NoAttr K c_Front "spent")
  (na_Front_standing:NoAttr K c_Front "standing")
  (na_Front_world:NoAttr K c_Front "world")
  (ic_Front_Front:IsC K c_Front c_Front)
  (ic_Front_Bound:IsC K c_Front c_Bound)
  (ic_Front_Rule:IsC K c_Front c_Rule)
  (me_Front_factor:Meth K c_Front "factor" f_z30)
  (me_Front_learn:Meth K c_Front "learn" f_z55)
  (me_Front_paid:Meth K c_Front "paid" f_z68)
  (me_Front_pay:Meth K c_Front "pay" f_z79)
  (me_Front_price_to:Meth K c_Front "price_to" f_z20)
  (me_Front_state:Meth K c_Front "state" f_z56)
  (me_Front_target:Meth K c_Front "target" f_z31)
  (cl_Store:Cls K c_Store)
  (mk_Store:Mk K c_Store f_z58)
  (na_Store_many:NoAttr K c_Store "many")
  (ic_Store_Store:IsC K c_Store c_Store)
  (ic_Store_World:IsC K c_Store c_World)
  (me_Store_is_state:Meth K c_Store "is_state" f_z10)
  (me_Store_is_wish:Meth K c_Store "is_wish" f_z22)
  (me_Store_price:Meth K c_Store "price" f_z47)
  (cl_Keeper:Cls K c_Keeper)
  (mk_Keeper:Mk K c_Keeper f_z45)
  (na_Keeper_row:NoAttr K c_Keeper "row")
  (na_Keeper_spent:NoAttr K c_Keeper "spent")
  (na_Keeper_standing:NoAttr K c_Keeper "standing")
  (na_Keeper_world:NoAttr K c_Keeper "world")
  (ic_Keeper_Keeper:IsC K c_Keeper c_Keeper)
  (ic_Keeper_Bound:IsC K c_Keeper c_Bound)
  (ic_Keeper_Rule:IsC K c_Keeper c_Rule)
  (me_Keeper_factor:Meth K c_Keeper "factor" f_z17)
  (me_Keeper_learn:Meth K c_Keeper "learn" f_z33)
  (me_Keeper_pages:Meth K c_Keeper "pages" f_z34)
  (me_Keeper_paid:Meth K c_Keeper "paid" f_z68)
  (me_Keeper_pay:Meth K c_Keeper "pay" f_z79)
  (me_Keeper_price_to:Meth K c_Keeper "price_to" f_z20)
  (me_Keeper_row_behind:Meth K c_Keeper "row_behind" f_z1)
  (me_Keeper_state:Meth K c_Keeper "state" f_z56)
  (me_Keeper_target:Meth K c_Keeper "target" f_z18)
  (cl_Ways:Cls K c_Ways)
  (mk_Ways:Mk K c_Ways f_z69)
  (na_Ways_many:NoAttr K c_Ways "many")
  (na_Ways_toll:NoAttr K c_Ways "toll")
  (ic_Ways_Ways:IsC K c_Ways c_Ways)
  (ic_Ways_World:IsC K c_Ways c_World)
  (me_Ways_is_state:Meth K c_Ways "is_state" f_z23)
  (me_Ways_is_wish:Meth K c_Ways "is_wish" f_z36)
  (me_Ways_price:Meth K c_Ways "price" f_z59)
  (cl_Changer:Cls K c_Changer)
  (mk_Changer:Mk K c_Changer f_z27)
  (na_Changer_reckoned:NoAttr K c_Changer "reckoned")
  (na_Changer_spent:NoAttr K c_Changer "spent")
  (na_Changer_standing:NoAttr K c_Changer "standing")
  (na_Changer_world:NoAttr K c_Changer "world")
  (ic_Changer_Changer:IsC K c_Changer c_Changer)
  (ic_Changer_Bound:IsC K c_Changer c_Bound)
  (ic_Changer_Rule:IsC K c_Changer c_Rule)
  (me_Changer_charged:Meth K c_Changer "charged" f_z2)
  (me_Changer_factor:Meth K c_Changer "factor" f_z7)
  (me_Changer_learn:Meth K c_Changer "learn" f_z13)
  (me_Changer_numbers:Meth K c_Changer "numbers" f_z3)
  (me_Changer_paid:Meth K c_Changer "paid" f_z68)
  (me_Changer_pay:Meth K c_Changer "pay" f_z79)
  (me_Changer_price_to:Meth K c_Changer "price_to" f_z20)
  (me_Changer_state:Meth K c_Changer "state" f_z56)
  (me_Changer_target:Meth K c_Changer "target" f_z8)
  (z_abs:NsB K "abs")
  (z_all:NsB K "all")
  (z_bool:NsB K "bool")
  (z_int:NsB K "int")
  (z_isinstance:NsB K "isinstance")
  (z_len:NsB K "len")
  (z_list:NsB K "list")
  (z_max:NsB K "max")
  (z_min:NsB K "min")
  (z_range:NsB K "range")
  (z_set:NsB K "set")
  (z_sorted:NsB K "sorted")
  (z_str:NsB K "str")
  (z_sum:NsB K "sum")
  (z_tuple:NsB K "tuple")
  (z_zip:NsB K "zip")
  (zk_MOST_BAGS:PySem.W.nsIn K mainGlobals "MOST_BAGS"=some (some (.int 500 t_MOST_BAGS))) :
  ∃ fd:FuncData,(∀ (s:Shared) (v:Value),BindsTo s fd ⟨[v],[]⟩ [("_law_script",v)])∧∀ base:Heap,K.In base→base.Ns mainGlobals mg→FnOk l.prog w K mg base (CXU l.prog w) 14 fa fd ["_law_script"] (sp K):=by
 obtain⟨a_z91,d_z91,F_z91⟩:=l_z91
 have b_z91:=F_z91.binds (ps:=["_law_script"]) fun _ _ _ _ _ _ us hl=>match us,hl with | [_],_=>rfl
 obtain⟨a_z84,d_z84,F_z84⟩:=l_z84
 have b_z84:=F_z84.binds (ps:=["_law_found","_law_due"]) fun _ _ _ _ _ _ us hl=>match us,hl with | [_,_],_=>rfl
 obtain⟨a_z78,d_z78,F_z78⟩:=l_z78
 have b_z78:=F_z78.binds (ps:=["_law_found"]) fun _ _ _ _ _ _ us hl=>match us,hl with | [_],_=>rfl
 obtain⟨a_z37,d_z37,F_z37⟩:=l_z37
 have b_z37:=F_z37.binds (ps:=["_law_found","_law_due"]) fun _ _ _ _ _ _ us hl=>match us,hl with | [_,_],_=>rfl
 obtain⟨a_z79,d_z79,F_z79⟩:=l_z79
 have b_z79:=F_z79.binds (ps:=["self","wish"]) fun _ _ _ _ _ _ us hl=>match us,hl with | [_,_],_=>rfl
 obtain⟨a_z28,d_z28,F_z28⟩:=l_z28
 have b_z28:=F_z28.binds (ps:=["self","wish"]) fun _ _ _ _ _ _ us hl=>match us,hl with | [_,_],_=>rfl
 obtain⟨a_z0,d_z0,F_z0⟩:=l_z0
 have b_z0:=F_z0.binds (ps:=["self","size"]) fun _ _ _ _ _ _ us hl=>match us,hl with | [_,_],_=>rfl
 obtain⟨a_z4,d_z4,F_z4⟩:=l_z4
 have b_z4:=F_z4.binds (ps:=["self","wish","after"]) fun _ _ _ _ _ _ us hl=>match us,hl with | [_,_,_],_=>rfl
 obtain⟨a_z15,d_z15,F_z15⟩:=l_z15
 have b_z15:=F_z15.binds (ps:=["self","wish"]) fun _ _ _ _ _ _ us hl=>match us,hl with | [_,_],_=>rfl
 obtain⟨a_z24,d_z24,F_z24⟩:=l_z24
 have b_z24:=F_z24.binds (ps:=["self","thing"]) fun _ _ _ _ _ _ us hl=>match us,hl with | [_,_],_=>rfl
 obtain⟨a_z11,d_z11,F_z11⟩:=l_z11
 have b_z11:=F_z11.binds (ps:=["thing","most"]) fun _ _ _ _ _ _ us hl=>match us,hl with | [_,_],_=>rfl
 obtain⟨a_z6,d_z6,F_z6⟩:=l_z6
 have b_z6:=F_z6.binds (ps:=["thing"]) fun _ _ _ _ _ _ us hl=>match us,hl with | [_],_=>rfl
 obtain⟨a_z33,d_z33,F_z33⟩:=l_z33
 have b_z33:=F_z33.binds (ps:=["self","wish"]) fun _ _ _ _ _ _ us hl=>match us,hl with | [_,_],_=>rfl
 obtain⟨a_z1,d_z1,F_z1⟩:=l_z1
 have b_z1:=F_z1.binds (ps:=["self","wish"]) fun _ _ _ _ _ _ us hl=>match us,hl with | [_,_],_=>rfl
 obtain⟨a_z20,d_z20,F_z20⟩:=l_z20
 have b_z20:=F_z20.binds (ps:=["self","wish","after"]) fun _ _ _ _ _ _ us hl=>match us,hl with | [_,_,_],_=>rfl
 obtain⟨a_z47,d_z47,F_z47⟩:=l_z47
 have b_z47:=F_z47.binds (ps:=["self","before","wish","after"]) fun _ _ _ _ _ _ us hl=>match us,hl with | [_,_,_,_],_=>rfl
 obtain⟨a_z18,d_z18,F_z18⟩:=l_z18
 have b_z18:=F_z18.binds (ps:=["self","wish"]) fun _ _ _ _ _ _ us hl=>match us,hl with | [_,_],_=>rfl
 obtain⟨a_z22,d_z22,F_z22⟩:=l_z22
 have b_z22:=F_z22.binds (ps:=["self","thing"]) fun _ _ _ _ _ _ us hl=>match us,hl with | [_,_],_=>rfl
 obtain⟨a_z86,d_z86,F_z86⟩:=l_z86
 have b_z86:=F_z86.binds (ps:=["thing"]) fun _ _ _ _ _ _ us hl=>match us,hl with | [_],_=>rfl
 obtain⟨a_z13,d_z13,F_z13⟩:=l_z13
 have b_z13:=F_z13.binds (ps:=["self","wish"]) fun _ _ _ _ _ _ us hl=>match us,hl with | [_,_],_=>rfl
 obtain⟨a_z2,d_z2,F_z2⟩:=l_z2
 have b_z2:=F_z2.binds (ps:=["self","charges"]) fun _ _ _ _ _ _ us hl=>match us,hl with | [_,_],_=>rfl
 obtain⟨a_z59,d_z59,F_z59⟩:=l_z59
 have b_z59:=F_z59.binds (ps:=["self","before","wish","after"]) fun _ _ _ _ _ _ us hl=>match us,hl with | [_,_,_,_],_=>rfl
 obtain⟨a_z8,d_z8,F_z8⟩:=l_z8
 have b_z8:=F_z8.binds (ps:=["self","wish"]) fun _ _ _ _ _ _ us hl=>match us,hl with | [_,_],_=>rfl
 obtain⟨a_z36,d_z36,F_z36⟩:=l_z36
 have b_z36:=F_z36.binds (ps:=["self","thing"]) fun _ _ _ _ _ _ us hl=>match us,hl with | [_,_],_=>rfl
 obtain⟨a_z71,d_z71,F_z71⟩:=l_z71
 have b_z71:=F_z71.binds (ps:=["thing"]) fun _ _ _ _ _ _ us hl=>match us,hl with | [_],_=>rfl
 obtain⟨a_z55,d_z55,F_z55⟩:=l_z55
 have b_z55:=F_z55.binds (ps:=["self","wish"]) fun _ _ _ _ _ _ us hl=>match us,hl with | [_,_],_=>rfl
 obtain⟨a_z53,d_z53,F_z53⟩:=l_z53
 have b_z53:=F_z53.binds (ps:=["self","before","wish","after"]) fun _ _ _ _ _ _ us hl=>match us,hl with | [_,_,_,_],_=>rfl
 obtain⟨a_z26,d_z26,F_z26⟩:=l_z26
 have b_z26:=F_z26.binds (ps:=["self","wish"]) fun _ _ _ _ _ _ us hl=>match us,hl with | [_,_],_=>rfl
 obtain⟨a_z32,d_z32,F_z32⟩:=l_z32
 have b_z32:=F_z32.binds (ps:=["self","thing"]) fun _ _ _ _ _ _ us hl=>match us,hl with | [_,_],_=>rfl
 obtain⟨a_z46,d_z46,F_z46⟩:=l_z46
 have b_z46:=F_z46.binds (ps:=["self","before","wish","after"]) fun _ _ _ _ _ _ us hl=>match us,hl with | [_,_,_,_],_=>rfl
 obtain⟨a_z40,d_z40,F_z40⟩:=l_z40
 have b_z40:=F_z40.binds (ps:=["before","after"]) fun _ _ _ _ _ _ us hl=>match us,hl with | [_,_],_=>rfl
 obtain⟨a_z62,d_z62,F_z62⟩:=l_z62
 have b_z62:=F_z62.binds (ps:=["order","at","other"]) fun _ _ _ _ _ _ us hl=>match us,hl with | [_,_,_],_=>rfl
 obtain⟨a_z31,d_z31,F_z31⟩:=l_z31
 have b_z31:=F_z31.binds (ps:=["self","wish"]) fun _ _ _ _ _ _ us hl=>match us,hl with | [_,_],_=>rfl
 obtain⟨a_z21,d_z21,F_z21⟩:=l_z21
 have b_z21:=F_z21.binds (ps:=["self","thing"]) fun _ _ _ _ _ _ us hl=>match us,hl with | [_,_],_=>rfl
 obtain⟨a_z54,d_z54,F_z54⟩:=l_z54
 have b_z54:=F_z54.binds (ps:=["self","before","wish","after"]) fun _ _ _ _ _ _ us hl=>match us,hl with | [_,_,_,_],_=>rfl
 obtain⟨a_z41,d_z41,F_z41⟩:=l_z41
 have b_z41:=F_z41.binds (ps:=["before","after"]) fun _ _ _ _ _ _ us hl=>match us,hl with | [_,_],_=>rfl
 obtain⟨a_z43,d_z43,F_z43⟩:=l_z43
 have b_z43:=F_z43.binds (ps:=["self","wish"]) fun _ _ _ _ _ _ us hl=>match us,hl with | [_,_],_=>rfl
 obtain⟨a_z35,d_z35,F_z35⟩:=l_z35
 have b_z35:=F_z35.binds (ps:=["self","thing"]) fun _ _ _ _ _ _ us hl=>match us,hl with | [_,_],_=>rfl
 obtain⟨a_z80,d_z80,F_z80⟩:=l_z80
 have b_z80:=F_z80.binds (ps:=["thing"]) fun _ _ _ _ _ _ us hl=>match us,hl with | [_],_=>rfl
 obtain⟨a_z82,d_z82,F_z82⟩:=l_z82
 have b_z82:=F_z82.binds (ps:=["_law_word","_law_start_here","_law_rule","_law_pair"]) fun _ _ _ _ _ _ us hl=>match us,hl with | [_,_,_,_],_=>rfl
 obtain⟨a_z61,d_z61,F_z61⟩:=l_z61
 have b_z61:=F_z61.binds (ps:=["_law_word","_law_start_here"]) fun _ _ _ _ _ _ us hl=>match us,hl with | [_,_],_=>rfl
 obtain⟨a_z14,d_z14,F_z14⟩:=l_z14
 have b_z14:=F_z14.binds (ps:=["self"]) fun _ _ _ _ _ _ us hl=>match us,hl with | [_],_=>rfl
 obtain⟨a_z17,d_z17,F_z17⟩:=l_z17
 have b_z17:=F_z17.binds (ps:=["self"]) fun _ _ _ _ _ _ us hl=>match us,hl with | [_],_=>rfl
 obtain⟨a_z7,d_z7,F_z7⟩:=l_z7
 have b_z7:=F_z7.binds (ps:=["self"]) fun _ _ _ _ _ _ us hl=>match us,hl with | [_],_=>rfl
 obtain⟨a_z25,d_z25,F_z25⟩:=l_z25
 have b_z25:=F_z25.binds (ps:=["self"]) fun _ _ _ _ _ _ us hl=>match us,hl with | [_],_=>rfl
 obtain⟨a_z30,d_z30,F_z30⟩:=l_z30
 have b_z30:=F_z30.binds (ps:=["self"]) fun _ _ _ _ _ _ us hl=>match us,hl with | [_],_=>rfl
 obtain⟨a_z42,d_z42,F_z42⟩:=l_z42
 have b_z42:=F_z42.binds (ps:=["self"]) fun _ _ _ _ _ _ us hl=>match us,hl with | [_],_=>rfl
 obtain⟨a_z68,d_z68,F_z68⟩:=l_z68
 have b_z68:=F_z68.binds (ps:=["self"]) fun _ _ _ _ _ _ us hl=>match us,hl with | [_],_=>rfl
 obtain⟨a_z56,d_z56,F_z56⟩:=l_z56
 have b_z56:=F_z56.binds (ps:=["self"]) fun _ _ _ _ _ _ us hl=>match us,hl with | [_],_=>rfl
 obtain⟨a_z39,d_z39,F_z39⟩:=l_z39
 have b_z39:=F_z39.binds (ps:=["_law_word","_law_rule"]) fun _ _ _ _ _ _ us hl=>match us,hl with | [_,_],_=>rfl
 obtain⟨a_z12,d_z12,F_z12⟩:=l_z12
 have b_z12:=F_z12.binds (ps:=["self","thing"]) fun _ _ _ _ _ _ us hl=>match us,hl with | [_,_],_=>rfl
 obtain⟨a_z10,d_z10,F_z10⟩:=l_z10
 have b_z10:=F_z10.binds (ps:=["self","thing"]) fun _ _ _ _ _ _ us hl=>match us,hl with | [_,_],_=>rfl
 obtain⟨a_z70,d_z70,F_z70⟩:=l_z70
 have b_z70:=F_z70.binds (ps:=["thing"]) fun _ _ _ _ _ _ us hl=>match us,hl with | [_],_=>rfl
 obtain⟨a_z23,d_z23,F_z23⟩:=l_z23
 have b_z23:=F_z23.binds (ps:=["self","thing"]) fun _ _ _ _ _ _ us hl=>match us,hl with | [_,_],_=>rfl
 obtain⟨a_z16,d_z16,F_z16⟩:=l_z16
 have b_z16:=F_z16.binds (ps:=["self","thing"]) fun _ _ _ _ _ _ us hl=>match us,hl with | [_,_],_=>rfl
 obtain⟨a_z9,d_z9,F_z9⟩:=l_z9
 have b_z9:=F_z9.binds (ps:=["self","thing"]) fun _ _ _ _ _ _ us hl=>match us,hl with | [_,_],_=>rfl
 obtain⟨a_z19,d_z19,F_z19⟩:=l_z19
 have b_z19:=F_z19.binds (ps:=["self","thing"]) fun _ _ _ _ _ _ us hl=>match us,hl with | [_,_],_=>rfl
 obtain⟨a_z38,d_z38,F_z38⟩:=l_z38
 have b_z38:=F_z38.binds (ps:=["_law_word","_law_world"]) fun _ _ _ _ _ _ us hl=>match us,hl with | [_,_],_=>rfl
 obtain⟨a_z72,d_z72,F_z72⟩:=l_z72
 have b_z72:=F_z72.binds (ps:=["_law_word","_law_start_here"]) fun _ _ _ _ _ _ us hl=>match us,hl with | [_,_],_=>rfl
 obtain⟨a_z77,d_z77,F_z77⟩:=l_z77
 have b_z77:=F_z77.binds (ps:=["_law_word","_law_rule","_law_twin"]) fun _ _ _ _ _ _ us hl=>match us,hl with | [_,_,_],_=>rfl
 obtain⟨a_z29,d_z29,F_z29⟩:=l_z29
 have b_z29:=F_z29.binds (ps:=["self"]) fun _ _ _ _ _ _ us hl=>match us,hl with | [_],_=>rfl
 obtain⟨a_z34,d_z34,F_z34⟩:=l_z34
 have b_z34:=F_z34.binds (ps:=["self"]) fun _ _ _ _ _ _ us hl=>match us,hl with | [_],_=>rfl
 obtain⟨a_z3,d_z3,F_z3⟩:=l_z3
 have b_z3:=F_z3.binds (ps:=["self"]) fun _ _ _ _ _ _ us hl=>match us,hl with | [_],_=>rfl
 obtain⟨a_z83,d_z83,F_z83⟩:=l_z83
 have b_z83:=F_z83.binds (ps:=["_law_rule","_law_world","_law_wish_here"]) fun _ _ _ _ _ _ us hl=>match us,hl with | [_,_,_],_=>rfl
 obtain⟨a_z50,d_z50,F_z50⟩:=l_z50
 have b_z50:=F_z50.binds (ps:=["self","before","wish","after"]) fun _ _ _ _ _ _ us hl=>match us,hl with | [_,_,_,_],_=>rfl
 obtain⟨a_z89,d_z89,F_z89⟩:=l_z89
 have b_z89:=F_z89.binds (ps:=["loads","at","size"]) fun _ _ _ _ _ _ us hl=>match us,hl with | [_,_,_],_=>rfl
 obtain⟨a_z90,d_z90,F_z90⟩:=l_z90
 have b_z90:=F_z90.binds (ps:=["loads","size"]) fun _ _ _ _ _ _ us hl=>match us,hl with | [_,_],_=>rfl
 obtain⟨a_z48,d_z48,F_z48⟩:=l_z48
 have b_z48:=F_z48.binds (ps:=["_law_word","_law_start_here"]) fun _ _ _ _ _ _ us hl=>match us,hl with | [_,_],_=>rfl
 obtain⟨a_z44,d_z44,F_z44⟩:=l_z44
 have b_z44:=F_z44.binds (ps:=["self","room"]) fun _ _ _ _ _ _ us hl=>match us,hl with | [_,_],_=>rfl
 obtain⟨a_z67,d_z67,F_z67⟩:=l_z67
 have b_z67:=F_z67.binds (ps:=["self","world","start"]) fun _ _ _ _ _ _ us hl=>match us,hl with | [_,_,_],_=>rfl
 obtain⟨a_z63,d_z63,F_z63⟩:=l_z63
 have b_z63:=F_z63.binds (ps:=["self","room"]) fun _ _ _ _ _ _ us hl=>match us,hl with | [_,_],_=>rfl
 obtain⟨a_z45,d_z45,F_z45⟩:=l_z45
 have b_z45:=F_z45.binds (ps:=["self","pages"]) fun _ _ _ _ _ _ us hl=>match us,hl with | [_,_],_=>rfl
 obtain⟨a_z58,d_z58,F_z58⟩:=l_z58
 have b_z58:=F_z58.binds (ps:=["self","many"]) fun _ _ _ _ _ _ us hl=>match us,hl with | [_,_],_=>rfl
 obtain⟨a_z5,d_z5,F_z5⟩:=l_z5
 have b_z5:=F_z5.binds (ps:=["thing"]) fun _ _ _ _ _ _ us hl=>match us,hl with | [_],_=>rfl
 obtain⟨a_z27,d_z27,F_z27⟩:=l_z27
 have b_z27:=F_z27.binds (ps:=["self","many","toll","start"]) (es:=[]) fun _ _ _ _ _ _ _ us hl=>match us,hl with | [_,_,_,_],_=>⟨_,rfl,rfl⟩
 obtain⟨a_z69,d_z69,F_z69⟩:=l_z69
 have b_z69:=F_z69.binds (ps:=["self","many","toll"]) fun _ _ _ _ _ _ us hl=>match us,hl with | [_,_,_],_=>rfl
 obtain⟨a_z51,d_z51,F_z51⟩:=l_z51
 have b_z51:=F_z51.binds (ps:=["self","whole"]) fun _ _ _ _ _ _ us hl=>match us,hl with | [_,_],_=>rfl
 obtain⟨a_z65,d_z65,F_z65⟩:=l_z65
 have b_z65:=F_z65.binds (ps:=["self","whole"]) fun _ _ _ _ _ _ us hl=>match us,hl with | [_,_],_=>rfl
 obtain⟨a_z52,d_z52,F_z52⟩:=l_z52
 have b_z52:=F_z52.binds (ps:=["self","start"]) fun _ _ _ _ _ _ us hl=>match us,hl with | [_,_],_=>rfl
 obtain⟨a_z57,d_z57,F_z57⟩:=l_z57
 have b_z57:=F_z57.binds (ps:=["self","things"]) fun _ _ _ _ _ _ us hl=>match us,hl with | [_,_],_=>rfl
 obtain⟨a_z64,d_z64,F_z64⟩:=l_z64
 have b_z64:=F_z64.binds (ps:=["self","start"]) fun _ _ _ _ _ _ us hl=>match us,hl with | [_,_],_=>rfl
 obtain⟨a_z87,d_z87,F_z87⟩:=l_z87
 have b_z87:=F_z87.binds (ps:=["start"]) fun _ _ _ _ _ _ us hl=>match us,hl with | [_],_=>rfl
 obtain⟨a_z66,d_z66,F_z66⟩:=l_z66
 have b_z66:=F_z66.binds (ps:=["self","many"]) fun _ _ _ _ _ _ us hl=>match us,hl with | [_,_],_=>rfl
 obtain⟨a_z49,d_z49,F_z49⟩:=l_z49
 have b_z49:=F_z49.binds (ps:=["word","start"]) fun _ _ _ _ _ _ us hl=>match us,hl with | [_,_],_=>rfl
 obtain⟨a_z88,d_z88,F_z88⟩:=l_z88
 have b_z88:=F_z88.binds (ps:=["word","start"]) fun _ _ _ _ _ _ us hl=>match us,hl with | [_,_],_=>rfl
 obtain⟨a_z85,d_z85,F_z85⟩:=l_z85
 have b_z85:=F_z85.binds (ps:=["_law_word","_law_start_here","_law_cell_here","_law_k"]) fun _ _ _ _ _ _ us hl=>match us,hl with | [_,_,_,_],_=>rfl
 obtain⟨a_z60,d_z60,F_z60⟩:=l_z60
 have b_z60:=F_z60.binds (ps:=["_law_cell_here","_law_k"]) fun _ _ _ _ _ _ us hl=>match us,hl with | [_,_],_=>rfl
 obtain⟨a_z73,d_z73,F_z73⟩:=l_z73
 have b_z73:=F_z73.binds (ps:=["_law_cell_here","_law_k"]) fun _ _ _ _ _ _ us hl=>match us,hl with | [_,_],_=>rfl
 obtain⟨a_z74,d_z74,F_z74⟩:=l_z74
 have b_z74:=F_z74.binds (ps:=["_law_number","_law_many"]) fun _ _ _ _ _ _ us hl=>match us,hl with | [_,_],_=>rfl
 obtain⟨a_z75,d_z75,F_z75⟩:=l_z75
 have b_z75:=F_z75.binds (ps:=["_law_cell_here","_law_k"]) fun _ _ _ _ _ _ us hl=>match us,hl with | [_,_],_=>rfl
 obtain⟨a_z76,d_z76,F_z76⟩:=l_z76
 have b_z76:=F_z76.binds (ps:=["_law_script"]) fun _ _ _ _ _ _ us hl=>match us,hl with | [_],_=>rfl
 obtain⟨a_z81,d_z81,F_z81⟩:=l_z81
 have b_z81:=F_z81.binds (ps:=["_law_script","_law_k"]) fun _ _ _ _ _ _ us hl=>match us,hl with | [_,_],_=>rfl
 have e:=hfa.symm.trans (PySem.W.mg_of X G a_z91)
 cases e
 have T:Txt K mg ⟨fa,d_z91,f_z84,d_z84,f_z78,d_z78,f_z37,d_z37,f_z79,d_z79,f_z28,d_z28,f_z0,d_z0,f_z4,d_z4,f_z15,d_z15,f_z24,d_z24,f_z11,d_z11,f_z6,d_z6,f_z33,d_z33,f_z1,d_z1,f_z20,d_z20,f_z47,d_z47,f_z18,d_z18,f_z22,d_z22,f_z86,d_z86,f_z13,d_z13,f_z2,d_z2,f_z59,d_z59,f_z8,d_z8,f_z36,d_z36,f_z71,d_z71,f_z55,d_z55,f_z53,d_z53,f_z26,d_z26,f_z32,d_z32,f_z46,d_z46,f_z40,d_z40,f_z62,d_z62,f_z31,d_z31,f_z21,d_z21,f_z54,d_z54,f_z41,d_z41,f_z43,d_z43,f_z35,d_z35,f_z80,d_z80,f_z82,d_z82,f_z61,d_z61,f_z14,d_z14,f_z17,d_z17,f_z7,d_z7,f_z25,d_z25,f_z30,d_z30,f_z42,d_z42,f_z68,d_z68,f_z56,d_z56,f_z39,d_z39,f_z12,d_z12,f_z10,d_z10,f_z70,d_z70,f_z23,d_z23,f_z16,d_z16,f_z9,d_z9,f_z19,d_z19,f_z38,d_z38,f_z72,d_z72,f_z77,d_z77,f_z29,d_z29,f_z34,d_z34,f_z3,d_z3,f_z83,d_z83,f_z50,d_z50,f_z89,d_z89,f_z90,d_z90,f_z48,d_z48,f_z44,d_z44,f_z67,d_z67,f_z63,d_z63,f_z45,d_z45,f_z58,d_z58,f_z5,d_z5,f_z27,d_z27,_,f_z69,d_z69,f_z51,d_z51,f_z65,d_z65,f_z52,d_z52,f_z57,d_z57,f_z64,d_z64,f_z87,d_z87,f_z66,d_z66,f_z49,d_z49,f_z88,d_z88,f_z85,d_z85,f_z60,d_z60,f_z73,d_z73,f_z74,d_z74,f_z75,d_z75,f_z76,d_z76,f_z81,d_z81,c_World,c_Rule,c_Bound,c_Bags,c_Filler,c_Hire,c_Buyer,c_Line,c_Both,c_Shelf,c_Front,c_Store,c_Keeper,c_Ways,c_Changer,_⟩:=⟨F_z91,b_z91,PySem.W.mg_of X G a_z91,F_z84,b_z84,PySem.W.mg_of X G a_z84,F_z78,b_z78,PySem.W.mg_of X G a_z78,F_z37,b_z37,PySem.W.mg_of X G a_z37,F_z79,b_z79,F_z28,b_z28,F_z0,b_z0,F_z4,b_z4,F_z15,b_z15,F_z24,b_z24,F_z11,b_z11,PySem.W.mg_of X G a_z11,F_z6,b_z6,PySem.W.mg_of X G a_z6,F_z33,b_z33,F_z1,b_z1,F_z20,b_z20,F_z47,b_z47,F_z18,b_z18,F_z22,b_z22,F_z86,b_z86,PySem.W.mg_of X G a_z86,F_z13,b_z13,F_z2,b_z2,F_z59,b_z59,F_z8,b_z8,F_z36,b_z36,F_z71,b_z71,PySem.W.mg_of X G a_z71,F_z55,b_z55,F_z53,b_z53,F_z26,b_z26,F_z32,b_z32,F_z46,b_z46,F_z40,b_z40,PySem.W.mg_of X G a_z40,F_z62,b_z62,PySem.W.mg_of X G a_z62,F_z31,b_z31,F_z21,b_z21,F_z54,b_z54,F_z41,b_z41,PySem.W.mg_of X G a_z41,F_z43,b_z43,F_z35,b_z35,F_z80,b_z80,PySem.W.mg_of X G a_z80,F_z82,b_z82,PySem.W.mg_of X G a_z82,F_z61,b_z61,PySem.W.mg_of X G a_z61,F_z14,b_z14,F_z17,b_z17,F_z7,b_z7,F_z25,b_z25,F_z30,b_z30,F_z42,b_z42,F_z68,b_z68,F_z56,b_z56,F_z39,b_z39,PySem.W.mg_of X G a_z39,F_z12,b_z12,F_z10,b_z10,F_z70,b_z70,PySem.W.mg_of X G a_z70,F_z23,b_z23,F_z16,b_z16,F_z9,b_z9,F_z19,b_z19,F_z38,b_z38,PySem.W.mg_of X G a_z38,F_z72,b_z72,PySem.W.mg_of X G a_z72,F_z77,b_z77,PySem.W.mg_of X G a_z77,F_z29,b_z29,F_z34,b_z34,F_z3,b_z3,F_z83,b_z83,PySem.W.mg_of X G a_z83,F_z50,b_z50,F_z89,b_z89,PySem.W.mg_of X G a_z89,F_z90,b_z90,PySem.W.mg_of X G a_z90,F_z48,b_z48,PySem.W.mg_of X G a_z48,F_z44,b_z44,F_z67,b_z67,F_z63,b_z63,F_z45,b_z45,F_z58,b_z58,F_z5,b_z5,PySem.W.mg_of X G a_z5,F_z27,b_z27,F_z69,b_z69,F_z51,b_z51,F_z65,b_z65,F_z52,b_z52,F_z57,b_z57,F_z64,b_z64,F_z87,b_z87,PySem.W.mg_of X G a_z87,F_z66,b_z66,F_z49,b_z49,PySem.W.mg_of X G a_z49,F_z88,b_z88,PySem.W.mg_of X G a_z88,F_z85,b_z85,PySem.W.mg_of X G a_z85,F_z60,b_z60,PySem.W.mg_of X G a_z60,F_z73,b_z73,PySem.W.mg_of X G a_z73,F_z74,b_z74,PySem.W.mg_of X G a_z74,F_z75,b_z75,PySem.W.mg_of X G a_z75,F_z76,b_z76,PySem.W.mg_of X G a_z76,F_z81,b_z81,PySem.W.mg_of X G a_z81,PySem.W.mg_of X G aC_World,PySem.W.mg_of X G aC_Rule,PySem.W.mg_of X G aC_Bound,cm_Bound_init,PySem.W.mg_of X G aC_Bags,cl_Bags,mk_Bags,na_Bags_room,ic_Bags_Bags,ic_Bags_World,me_Bags_is_state,me_Bags_is_wish,me_Bags_price,PySem.W.mg_of X G aC_Filler,cl_Filler,mk_Filler,na_Filler_packed,na_Filler_spent,na_Filler_standing,na_Filler_world,ic_Filler_Filler,ic_Filler_Bound,ic_Filler_Rule,me_Filler_factor,me_Filler_learn,me_Filler_loads,me_Filler_loads_behind,me_Filler_paid,me_Filler_pay,me_Filler_price_to,me_Filler_state,me_Filler_target,PySem.W.mg_of X G aC_Hire,cl_Hire,mk_Hire,na_Hire_whole,ic_Hire_Hire,ic_Hire_World,me_Hire_is_state,me_Hire_is_wish,me_Hire_price,PySem.W.mg_of X G aC_Buyer,cl_Buyer,mk_Buyer,na_Buyer_spent,na_Buyer_standing,na_Buyer_world,ic_Buyer_Buyer,ic_Buyer_Bound,ic_Buyer_Rule,me_Buyer_factor,me_Buyer_learn,me_Buyer_paid,me_Buyer_pay,me_Buyer_price_to,me_Buyer_state,me_Buyer_target,PySem.W.mg_of X G aC_Line,cl_Line,mk_Line,na_Line_many,ic_Line_Line,ic_Line_World,me_Line_is_state,me_Line_is_wish,me_Line_price,PySem.W.mg_of X G aC_Both,cl_Both,mk_Both,na_Both_spent,na_Both_standing,na_Both_world,ic_Both_Both,ic_Both_Bound,ic_Both_Rule,me_Both_factor,me_Both_learn,me_Both_paid,me_Both_pay,me_Both_price_to,me_Both_state,me_Both_target,PySem.W.mg_of X G aC_Shelf,cl_Shelf,mk_Shelf,na_Shelf_things,ic_Shelf_Shelf,ic_Shelf_World,me_Shelf_is_state,me_Shelf_is_wish,me_Shelf_price,PySem.W.mg_of X G aC_Front,cl_Front,mk_Front,na_Front_spent,na_Front_standing,na_Front_world,ic_Front_Front,ic_Front_Bound,ic_Front_Rule,me_Front_factor,me_Front_learn,me_Front_paid,me_Front_pay,me_Front_price_to,me_Front_state,me_Front_target,PySem.W.mg_of X G aC_Store,cl_Store,mk_Store,na_Store_many,ic_Store_Store,ic_Store_World,me_Store_is_state,me_Store_is_wish,me_Store_price,PySem.W.mg_of X G aC_Keeper,cl_Keeper,mk_Keeper,na_Keeper_row,na_Keeper_spent,na_Keeper_standing,na_Keeper_world,ic_Keeper_Keeper,ic_Keeper_Bound,ic_Keeper_Rule,me_Keeper_factor,me_Keeper_learn,me_Keeper_pages,me_Keeper_paid,me_Keeper_pay,me_Keeper_price_to,me_Keeper_row_behind,me_Keeper_state,me_Keeper_target,PySem.W.mg_of X G aC_Ways,cl_Ways,mk_Ways,na_Ways_many,na_Ways_toll,ic_Ways_Ways,ic_Ways_World,me_Ways_is_state,me_Ways_is_wish,me_Ways_price,PySem.W.mg_of X G aC_Changer,cl_Changer,mk_Changer,na_Changer_reckoned,na_Changer_spent,na_Changer_standing,na_Changer_world,ic_Changer_Changer,ic_Changer_Bound,ic_Changer_Rule,me_Changer_charged,me_Changer_factor,me_Changer_learn,me_Changer_numbers,me_Changer_paid,me_Changer_pay,me_Changer_price_to,me_Changer_state,me_Changer_target,PySem.W.mg_none_of X G z_abs,PySem.W.mg_none_of X G z_all,PySem.W.mg_none_of X G z_bool,PySem.W.mg_none_of X G z_int,PySem.W.mg_none_of X G z_isinstance,PySem.W.mg_none_of X G z_len,PySem.W.mg_none_of X G z_list,PySem.W.mg_none_of X G z_max,PySem.W.mg_none_of X G z_min,PySem.W.mg_none_of X G z_range,PySem.W.mg_none_of X G z_set,PySem.W.mg_none_of X G z_sorted,PySem.W.mg_none_of X G z_str,PySem.W.mg_none_of X G z_sum,PySem.W.mg_none_of X G z_tuple,PySem.W.mg_none_of X G z_zip,PySem.W.mg_of X G zk_MOST_BAGS⟩
 exact⟨_,F_z91.one fun _ _ _ _ _ _ _ _=>rfl,fun base _ _=>ok _ base T⟩
theorem walk {l:PySem.W.OpenLaw}{q:Program}{loose:List Str}{XP:(Str→Option Value)→Heap→Prop}{YP:World→Heap→Prop}{d:DefRec}{K:Params→PySem.W.Frag} (sp:PySem.W.Frag→Sp) (hsp:∀ (K:PySem.W.Frag) (H:Hp) (a:Addr) (ns:List Int),ns.length≤63→(∀ z∈ns,ib z≤1048576)→SqL K H a (ns.map V.int)→sp K [.ref a] H (fun v _=>v=.bl true) fun _ _ _=>False) (hn:l.most=some 63) (hdf:d.params.defaults=[])
  (hY:∀ (w:World) (h:Heap),YP w h→(K w.params).In h)
  (F:∀ (w:World) (mg:Str→Option Value) (fa:Addr) (h:Heap),(K w.params).In h→h.Ns mainGlobals mg→mg d.name=some (.ref fa) →
   ∃ fd:FuncData,(∀ (s:Shared) (u:Value),BindsTo s fd ⟨[u],[]⟩ [("_law_script",u)])∧∀ base:Heap,(K w.params).In base→base.Ns mainGlobals mg→FnOk l.prog w (K w.params) mg base (CXU l.prog w) 14 fa fd ["_law_script"] (sp (K w.params))) :
  PySem.W.WalkO q loose XP YP l.row.toRowW d [] (fun f vs=>PySem.call f vs) :=
 L2.walk_ofB (n:=63) (k:=14) (x:="_law_script") (CX:=fun w=>CXU l.prog w) (sp:=fun w=>sp (K w.params)) hn (by decide) hdf ⟨rfl,by decide,by decide,rfl⟩ hY F (fun _ _ a ns hl hb _ hS=>hsp _ _ a ns hl hb hS) noneU
end Q
section
namespace PySem.W.Fast
def tw14845490140079724931:Unit:=()
def tw2702712899031829520:Unit:=()
def tw17944496600206718624:Unit:=()
def tw3612623546624758366:Unit:=()
def tw10082351954776902759:Unit:=()
def tw12230453900505160846:Unit:=()
def tw13347253714017156066:Unit:=()
def tw2646794006061983775:Unit:=()
def tw8147668633768932590:Unit:=()
def tw3832838412547456129:Unit:=()
def tw6608615660061471833:Unit:=()
def tw2589752109353487838:Unit:=()
def tw8855225628491397577:Unit:=()
def tw5761160138572672813:Unit:=()
def tw4612168478165259314:Unit:=()
def tw12951188009381212832:Unit:=()
def tw7619529439154925361:Unit:=()
def tw2345031706847869135:Unit:=()
def tw1840643136466604871:Unit:=()
def tw5685613552018022641:Unit:=()
def tw807382498483159876:Unit:=()
def tw3743432716624537751:Unit:=()
def tw15717304113129304768:Unit:=()
def tw12212387701507014008:Unit:=()
def tw13370970870723374918:Unit:=()
def tw10781989199983597768:Unit:=()
def tw14430148300477686608:Unit:=()
def tw11658610141798884304:Unit:=()
def tw9690732467127118560:Unit:=()
def tw2869864399601028965:Unit:=()
def tw6116316364254872798:Unit:=()
def tw3480125817150052930:Unit:=()
def tw4011214973551327216:Unit:=()
def tw10128919067578309533:Unit:=()
def tw5663493776663576973:Unit:=()
def tw3295214430684439903:Unit:=()
def tw16790811555157737959:Unit:=()
def tw6475373860408752468:Unit:=()
def tw9032240479517857202:Unit:=()
def tw3561317818341778206:Unit:=()
def tw12389207731484362188:Unit:=()
def tw9372526015966622625:Unit:=()
def tw5571319566264957897:Unit:=()
def tw5226544468208452977:Unit:=()
def tw8571564493755786809:Unit:=()
def tw12533620218336592294:Unit:=()
def tw8050247302935986681:Unit:=()
def tw13266721813167387182:Unit:=()
def tw16090150651697799580:Unit:=()
def tw16784668004891363831:Unit:=()
def tw710741913308365067:Unit:=()
def tw4655963275789168065:Unit:=()
def tw1909481241617332643:Unit:=()
def tw10046587089050892843:Unit:=()
def tw2316835935743401100:Unit:=()
def tw13477693903058000515:Unit:=()
def tw1951871017498775078:Unit:=()
def tw8927739099075343030:Unit:=()
def tw5658274813786833404:Unit:=()
def tw1991855735751338282:Unit:=()
def tw12400776917148896714:Unit:=()
def tw8515517469390456417:Unit:=()
def tw11186283762837078669:Unit:=()
def tw1315573701453131900:Unit:=()
def tw16618193728134853377:Unit:=()
def tw3496895567717329955:Unit:=()
def tw7921114209262957998:Unit:=()
def tw7274310969721590793:Unit:=()
def tw11266181997020584068:Unit:=()
def tw7733239960598958322:Unit:=()
def tw14636243596946667999:Unit:=()
def tw8241341852611800082:Unit:=()
def tw11247813388538514355:Unit:=()
def tw8617100476830298803:Unit:=()
def tw10445992084424403395:Unit:=()
def tw15061263870991281938:Unit:=()
def tw11656176691074295135:Unit:=()
def tw10381457724839769152:Unit:=()
def tw5232665453527604342:Unit:=()
def tw14604115359425177984:Unit:=()
def tw16124787994761682935:Unit:=()
def tw6883605013354369012:Unit:=()
def tw13000217955168829858:Unit:=()
def tw13814371100477172201:Unit:=()
def tw4485587507185474426:Unit:=()
def tw13639344518404914722:Unit:=()
def tw15614449308311215867:Unit:=()
def tw12946676677296832937:Unit:=()
def tw3150949685210919240:Unit:=()
def tw13533056005844991700:Unit:=()
def tw10773269428678356898:Unit:=()
def tw10563927547217253461:Unit:=()
def tw12858875457359922182:Unit:=()
def tw10138139546688066953:Unit:=()
def tw11119419929572199099:Unit:=()
def tw8204181279118524660:Unit:=()
def tw17040845048901506325:Unit:=()
def tw10820070637228152845:Unit:=()
def tw4337437524143853012:Unit:=()
def tw9521114361876473982:Unit:=()
def tw7093082078479238206:Unit:=()
def tw612211946832554284:Unit:=()
def tw5508821281265059173:Unit:=()
def tw7868779135147828561:Unit:=()
def tw16589713337893429981:Unit:=()
def tw10488233081393224576:Unit:=()
def tw4922690652127475958:Unit:=()
def tw212850539881339184:Unit:=()
def tw15865918134499048827:Unit:=()
def tw11757566172242523236:Unit:=()
def tw14398436835516946285:Unit:=()
def tw6954976122532950795:Unit:=()
def tw2524981510512436487:Unit:=()
def tw10220994350491200614:Unit:=()
def tw13489757362077932351:Unit:=()
def tw12814186205452197653:Unit:=()
def tw5756448538886361017:Unit:=()
def tw16303506156139586653:Unit:=()
def tw4282708259893996409:Unit:=()
def tw3655809174678686607:Unit:=()
def tw5005414397262745964:Unit:=()
def tw11202944173355184415:Unit:=()
def tw7150618973692511075:Unit:=()
def tw5749677833116606498:Unit:=()
def tw2389277205302588621:Unit:=()
def tw13744246317766035221:Unit:=()
def tw16713159876079501104:Unit:=()
def tw17248481837088340248:Unit:=()
def tw15322400440545195392:Unit:=()
def tw14387112497636631809:Unit:=()
def tw11501097903210643032:Unit:=()
def tw6276771384577830200:Unit:=()
def tw3363430460811215935:Unit:=()
def tw965059576732518053:Unit:=()
def tw1654258253281325083:Unit:=()
def tw12917552239115469849:Unit:=()
def tw17497147395742482401:Unit:=()
def tw8003577696936010474:Unit:=()
def tw5723972710477302590:Unit:=()
def tw16456366490669660240:Unit:=()
def tw14333041764955017782:Unit:=()
def tw14427479001233167735:Unit:=()
def tw10121615357212652627:Unit:=()
def tw13992607532230789514:Unit:=()
def tw5299457392612198477:Unit:=()
def tw14713162415422393793:Unit:=()
def tw2841859434300680514:Unit:=()
def tw2774528334203101661:Unit:=()
def tw12932046167787554914:Unit:=()
def tw16165601679202911688:Unit:=()
def tw3278799809050689686:Unit:=()
def tw14808067681296848620:Unit:=()
def tw9189349667802719649:Unit:=()
def tw7816024418788659348:Unit:=()
def tw4962540401328690933:Unit:=()
def tw17700219069699030837:Unit:=()
def tw12680480555123890014:Unit:=()
def tw10483277710135862741:Unit:=()
def tw3759994126279390085:Unit:=()
def tw15234782242370477899:Unit:=()
def tw8036656425069728654:Unit:=()
def tw13418127876362915010:Unit:=()
def tw4907360430748920332:Unit:=()
def tw13928452411548069620:Unit:=()
def tw14686002937310657841:Unit:=()
def tw6046411579808754142:Unit:=()
def tw4218652584689419553:Unit:=()
def tw15042490418865797895:Unit:=()
def tw872525558276255742:Unit:=()
def tw15947895136971172855:Unit:=()
def tw14566374256662750790:Unit:=()
def tw9771983046276201981:Unit:=()
def tw5787711798101408374:Unit:=()
def tw17794640481046049178:Unit:=()
def tw4009576399760962553:Unit:=()
def tw17323309370848829644:Unit:=()
def tw12678354194420148014:Unit:=()
def tw3577697529760225596:Unit:=()
def tw3257020918441907456:Unit:=()
def tw6271499954631974851:Unit:=()
def tw3826753114991247406:Unit:=()
def tw14321494144189477709:Unit:=()
def tw15994332015439435088:Unit:=()
def tw4898906602889960204:Unit:=()
def tw5033342450600387583:Unit:=()
def tw17801523206341627445:Unit:=()
def tw383454812905012507:Unit:=()
def tw6485311749358165964:Unit:=()
def tw5937130466180922322:Unit:=()
def tw6264616829776000820:Unit:=()
def tw11469854601051046475:Unit:=()
def tw12227841880948707076:Unit:=()
def tw8751713135179658618:Unit:=()
def tw2457714582866517937:Unit:=()
def tw10105581184649449686:Unit:=()
def tw17322659733511678490:Unit:=()
def tw14133038229785069528:Unit:=()
def tw8512457888125850791:Unit:=()
def tw14578507522619516775:Unit:=()
def tw4593119080492725996:Unit:=()
def tw7111133116126154400:Unit:=()
def tw10191430264294166124:Unit:=()
def tw142909288770272688:Unit:=()
def tw120266977294623490:Unit:=()
def tw9660734963116203896:Unit:=()
def tw5366249023007417179:Unit:=()
end PySem.W.Fast
open PySem PySem.W PyProof.Rows
set_option maxRecDepth 100000 in
set_option maxHeartbeats 0 in
open_top PySem.Challenge.cw_lateknow_k83_rules_and_worlds_hd for PySem.Challenge.rw_lateknow_k83_rules_and_worlds
local macro_rules | `(tactic| walk_at "k0")=>`(tactic| first | ((with_reducible show L2.NsC _ _ _);unfold L2.NsC;k_is) | (unfold L2.NsB;k_is))
local macro_rules | `(tactic| walk_at "kn")=>`(tactic| (unfold L2.NoAttr;k_is))
local macro_rules | `(tactic| walk_at "kf")=>`(tactic| (refine' ⟨?ka,_,L2.fun_mk ?kb ?kc ?kd⟩;(case ka=>k_is);(case kb=>k_is);(case kc=>k_is);(case kd=>k_is)))
local macro_rules | `(tactic| walk_at "kd")=>`(tactic| (refine' ⟨?ka,_,L2.funD_mk ?kb ?kc ?kd ?ke⟩;(case ka=>k_is);(case kb=>k_is);(case kc=>k_is);(case kd=>k_is);(case ke=>k_is)))
local macro_rules | `(tactic| walk_at "k3")=>`(tactic| (refine' ⟨?ka,?kb,?kc⟩;(case ka=>k_is);(case kb=>k_is);(case kc=>k_is)))
local macro_rules | `(tactic| walk_at "k4")=>`(tactic| (refine' ⟨?ka,?kb,?kc,?kd⟩;(case ka=>k_is);(case kb=>k_is);(case kc=>k_is);(case kd=>k_is)))
local macro_rules | `(tactic| walk_at "k5")=>`(tactic| (refine' ⟨?ka,?kb,?kc,?kd,?kz⟩;(case ka=>k_is);(case kb=>k_is);(case kc=>k_is);(case kd=>k_is);(case kz=>kit_is)))
set_option maxRecDepth 100000 in
set_option maxHeartbeats 0 in
theorem PySem.Challenge.cw_lateknow_k83_rules_and_worlds_pre (sp : PySem.W.Frag → L2.Sp) (hsp : ∀ (K : PySem.W.Frag) (H : L2.Hp) (a : Addr) (ns : List Int), ns.length ≤ 63 → (∀ z ∈ ns, L2.ib z ≤ 1048576) → L2.SqL K H a (ns.map L2.V.int) → sp K [.ref a] H (fun v _ => v = .bl true) fun _ _ _ => False)
  (ok:∀ (w:World) (K:PySem.W.Frag) (mg:Str→Option Value) (a:Q.Adr) (base:Heap),Q.Txt K mg a→L2.FnOk PySem.Challenge.rw_lateknow_k83_rules_and_worlds.prog w K mg base (L2.CXU PySem.Challenge.rw_lateknow_k83_rules_and_worlds.prog w) 14 a.f_z91 a.d_z91 ["_law_script"] (sp K)):PySem.Challenge.rw_lateknow_k83_rules_and_worlds.Holds:=by
 refine PySem.Challenge.cw_lateknow_k83_rules_and_worlds_hd ?_
 k_fill
 first | refine Q.walk (l:=PySem.Challenge.rw_lateknow_k83_rules_and_worlds) sp hsp rfl rfl (fun w h Y=>PySem.W.kIn_of Y) ?F | refine Q.walk (l:=PySem.Challenge.rw_lateknow_k83_rules_and_worlds) sp hsp rfl rfl (fun w h Y=>PySem.W.km_in_of Y) ?F
 case F =>
  intro w mg fa h KX G hmg
  refine' Q.all_mk sp (fun a base T=>ok w _ mg a base T) KX G hmg ?aC_World ?aC_Rule ?aC_Bound ?aC_Bags ?aC_Filler ?aC_Hire ?aC_Buyer ?aC_Line ?aC_Both ?aC_Shelf ?aC_Front ?aC_Store ?aC_Keeper ?aC_Ways ?aC_Changer ?l_z91 ?l_z84 ?l_z78 ?l_z37 ?l_z79 ?l_z28 ?l_z0 ?l_z4 ?l_z15 ?l_z24 ?l_z11 ?l_z6 ?l_z33 ?l_z1 ?l_z20 ?l_z47 ?l_z18 ?l_z22 ?l_z86 ?l_z13 ?l_z2 ?l_z59 ?l_z8 ?l_z36 ?l_z71 ?l_z55 ?l_z53 ?l_z26 ?l_z32 ?l_z46 ?l_z40 ?l_z62 ?l_z31 ?l_z21 ?l_z54 ?l_z41 ?l_z43 ?l_z35 ?l_z80 ?l_z82 ?l_z61 ?l_z14 ?l_z17 ?l_z7 ?l_z25 ?l_z30 ?l_z42 ?l_z68 ?l_z56 ?l_z39 ?l_z12 ?l_z10 ?l_z70 ?l_z23 ?l_z16 ?l_z9 ?l_z19 ?l_z38 ?l_z72 ?l_z77 ?l_z29 ?l_z34 ?l_z3 ?l_z83 ?l_z50 ?l_z89 ?l_z90 ?l_z48 ?l_z44 ?l_z67 ?l_z63 ?l_z45 ?l_z58 ?l_z5 ?l_z27 ?l_z69 ?l_z51 ?l_z65 ?l_z52 ?l_z57 ?l_z64 ?l_z87 ?l_z66 ?l_z49 ?l_z88 ?l_z85 ?l_z60 ?l_z73 ?l_z74 ?l_z75 ?l_z76 ?l_z81 ?cm_Bound_init ?cl_Bags ?mk_Bags ?na_Bags_room ?ic_Bags_Bags ?ic_Bags_World ?me_Bags_is_state ?me_Bags_is_wish ?me_Bags_price ?cl_Filler ?mk_Filler ?na_Filler_packed ?na_Filler_spent ?na_Filler_standing ?na_Filler_world ?ic_Filler_Filler ?ic_Filler_Bound ?ic_Filler_Rule ?me_Filler_factor ?me_Filler_learn ?me_Filler_loads ?me_Filler_loads_behind ?me_Filler_paid ?me_Filler_pay ?me_Filler_price_to ?me_Filler_state ?me_Filler_target ?cl_Hire ?mk_Hire ?na_Hire_whole ?ic_Hire_Hire ?ic_Hire_World ?me_Hire_is_state ?me_Hire_is_wish ?me_Hire_price ?cl_Buyer ?mk_Buyer ?na_Buyer_spent ?na_Buyer_standing ?na_Buyer_world ?ic_Buyer_Buyer ?ic_Buyer_Bound ?ic_Buyer_Rule ?me_Buyer_factor ?me_Buyer_learn ?me_Buyer_paid ?me_Buyer_pay ?me_Buyer_price_to ?me_Buyer_state ?me_Buyer_target ?cl_Line ?mk_Line ?na_Line_many ?ic_Line_Line ?ic_Line_World ?me_Line_is_state ?me_Line_is_wish ?me_Line_price ?cl_Both ?mk_Both ?na_Both_spent ?na_Both_standing ?na_Both_world ?ic_Both_Both ?ic_Both_Bound ?ic_Both_Rule ?me_Both_factor ?me_Both_learn ?me_Both_paid ?me_Both_pay ?me_Both_price_to ?me_Both_state ?me_Both_target ?cl_Shelf ?mk_Shelf ?na_Shelf_things ?ic_Shelf_Shelf ?ic_Shelf_World ?me_Shelf_is_state ?me_Shelf_is_wish ?me_Shelf_price ?cl_Front ?mk_Front ?na_Front_spent ?na_Front_standing ?na_Front_world ?ic_Front_Front ?ic_Front_Bound ?ic_Front_Rule ?me_Front_factor ?me_Front_learn ?me_Front_paid ?me_Front_pay ?me_Front_price_to ?me_Front_state ?me_Front_target ?cl_Store ?mk_Store ?na_Store_many ?ic_Store_Store ?ic_Store_World ?me_Store_is_state ?me_Store_is_wish ?me_Store_price ?cl_Keeper ?mk_Keeper ?na_Keeper_row ?na_Keeper_spent ?na_Keeper_standing ?na_Keeper_world ?ic_Keeper_Keeper ?ic_Keeper_Bound ?ic_Keeper_Rule ?me_Keeper_factor ?me_Keeper_learn ?me_Keeper_pages ?me_Keeper_paid ?me_Keeper_pay ?me_Keeper_price_to ?me_Keeper_row_behind ?me_Keeper_state ?me_Keeper_target ?cl_Ways ?mk_Ways ?na_Ways_many ?na_Ways_toll ?ic_Ways_Ways ?ic_Ways_World ?me_Ways_is_state ?me_Ways_is_wish ?me_Ways_price ?cl_Changer ?mk_Changer ?na_Changer_reckoned ?na_Changer_spent ?na_Changer_standing ?na_Changer_world ?ic_Changer_Changer ?ic_Changer_Bound ?ic_Changer_Rule ?me_Changer_charged ?me_Changer_factor ?me_Changer_learn ?me_Changer_numbers ?me_Changer_paid ?me_Changer_pay ?me_Changer_price_to ?me_Changer_state ?me_Changer_target ?z_abs ?z_all ?z_bool ?z_int ?z_isinstance ?z_len ?z_list ?z_max ?z_min ?z_range ?z_set ?z_sorted ?z_str ?z_sum ?z_tuple ?z_zip ?zk_MOST_BAGS
  (case aC_World=>walk_at "k0")
  (case aC_Rule=>walk_at "k0")
  (case aC_Bound=>walk_at "k0")
  (case aC_Bags=>walk_at "k0")
  (case aC_Filler=>walk_at "k0")
  (case aC_Hire=>walk_at "k0")
  (case aC_Buyer=>walk_at "k0")
  (case aC_Line=>walk_at "k0")
  (case aC_Both=>walk_at "k0")
  (case aC_Shelf=>walk_at "k0")
  (case aC_Front=>walk_at "k0")
  (case aC_Store=>walk_at "k0")
  (case aC_Keeper=>walk_at "k0")
  (case aC_Ways=>walk_at "k0")
  (case aC_Changer=>walk_at "k0")
  (case l_z91=>walk_at "kf")
  (case l_z84=>walk_at "kf")
  (case l_z78=>walk_at "kf")
  (case l_z37=>walk_at "kf")
  (case l_z79=>walk_at "kf")
  (case l_z28=>walk_at "kf")
  (case l_z0=>walk_at "kf")
  (case l_z4=>walk_at "kf")
  (case l_z15=>walk_at "kf")
  (case l_z24=>walk_at "kf")
  (case l_z11=>walk_at "kf")
  (case l_z6=>walk_at "kf")
  (case l_z33=>walk_at "kf")
  (case l_z1=>walk_at "kf")
  (case l_z20=>walk_at "kf")
  (case l_z47=>walk_at "kf")
  (case l_z18=>walk_at "kf")
  (case l_z22=>walk_at "kf")
  (case l_z86=>walk_at "kf")
  (case l_z13=>walk_at "kf")
  (case l_z2=>walk_at "kf")
  (case l_z59=>walk_at "kf")
  (case l_z8=>walk_at "kf")
  (case l_z36=>walk_at "kf")
  (case l_z71=>walk_at "kf")
  (case l_z55=>walk_at "kf")
  (case l_z53=>walk_at "kf")
  (case l_z26=>walk_at "kf")
  (case l_z32=>walk_at "kf")
  (case l_z46=>walk_at "kf")
  (case l_z40=>walk_at "kf")
  (case l_z62=>walk_at "kf")
  (case l_z31=>walk_at "kf")
  (case l_z21=>walk_at "kf")
  (case l_z54=>walk_at "kf")
  (case l_z41=>walk_at "kf")
  (case l_z43=>walk_at "kf")
  (case l_z35=>walk_at "kf")
  (case l_z80=>walk_at "kf")
  (case l_z82=>walk_at "kf")
  (case l_z61=>walk_at "kf")
  (case l_z14=>walk_at "kf")
  (case l_z17=>walk_at "kf")
  (case l_z7=>walk_at "kf")
  (case l_z25=>walk_at "kf")
  (case l_z30=>walk_at "kf")
  (case l_z42=>walk_at "kf")
  (case l_z68=>walk_at "kf")
  (case l_z56=>walk_at "kf")
  (case l_z39=>walk_at "kf")
  (case l_z12=>walk_at "kf")
  (case l_z10=>walk_at "kf")
  (case l_z70=>walk_at "kf")
  (case l_z23=>walk_at "kf")
  (case l_z16=>walk_at "kf")
  (case l_z9=>walk_at "kf")
  (case l_z19=>walk_at "kf")
  (case l_z38=>walk_at "kf")
  (case l_z72=>walk_at "kf")
  (case l_z77=>walk_at "kf")
  (case l_z29=>walk_at "kf")
  (case l_z34=>walk_at "kf")
  (case l_z3=>walk_at "kf")
  (case l_z83=>walk_at "kf")
  (case l_z50=>walk_at "kf")
  (case l_z89=>walk_at "kf")
  (case l_z90=>walk_at "kf")
  (case l_z48=>walk_at "kf")
  (case l_z44=>walk_at "kf")
  (case l_z67=>walk_at "kf")
  (case l_z63=>walk_at "kf")
  (case l_z45=>walk_at "kf")
  (case l_z58=>walk_at "kf")
  (case l_z5=>walk_at "kf")
  (case l_z27=>walk_at "kd")
  (case l_z69=>walk_at "kf")
  (case l_z51=>walk_at "kf")
  (case l_z65=>walk_at "kf")
  (case l_z52=>walk_at "kf")
  (case l_z57=>walk_at "kf")
  (case l_z64=>walk_at "kf")
  (case l_z87=>walk_at "kf")
  (case l_z66=>walk_at "kf")
  (case l_z49=>walk_at "kf")
  (case l_z88=>walk_at "kf")
  (case l_z85=>walk_at "kf")
  (case l_z60=>walk_at "kf")
  (case l_z73=>walk_at "kf")
  (case l_z74=>walk_at "kf")
  (case l_z75=>walk_at "kf")
  (case l_z76=>walk_at "kf")
  (case l_z81=>walk_at "kf")
  (case cm_Bound_init=>walk_at "k4")
  (case cl_Bags=>walk_at "k4")
  (case mk_Bags=>walk_at "k4")
  (case na_Bags_room=>walk_at "kn")
  (case ic_Bags_Bags=>walk_at "k5")
  (case ic_Bags_World=>walk_at "k5")
  (case me_Bags_is_state=>walk_at "k3")
  (case me_Bags_is_wish=>walk_at "k3")
  (case me_Bags_price=>walk_at "k3")
  (case cl_Filler=>walk_at "k4")
  (case mk_Filler=>walk_at "k4")
  (case na_Filler_packed=>walk_at "kn")
  (case na_Filler_spent=>walk_at "kn")
  (case na_Filler_standing=>walk_at "kn")
  (case na_Filler_world=>walk_at "kn")
  (case ic_Filler_Filler=>walk_at "k5")
  (case ic_Filler_Bound=>walk_at "k5")
  (case ic_Filler_Rule=>walk_at "k5")
  (case me_Filler_factor=>walk_at "k3")
  (case me_Filler_learn=>walk_at "k3")
  (case me_Filler_loads=>walk_at "k3")
  (case me_Filler_loads_behind=>walk_at "k3")
  (case me_Filler_paid=>walk_at "k3")
  (case me_Filler_pay=>walk_at "k3")
  (case me_Filler_price_to=>walk_at "k3")
  (case me_Filler_state=>walk_at "k3")
  (case me_Filler_target=>walk_at "k3")
  (case cl_Hire=>walk_at "k4")
  (case mk_Hire=>walk_at "k4")
  (case na_Hire_whole=>walk_at "kn")
  (case ic_Hire_Hire=>walk_at "k5")
  (case ic_Hire_World=>walk_at "k5")
  (case me_Hire_is_state=>walk_at "k3")
  (case me_Hire_is_wish=>walk_at "k3")
  (case me_Hire_price=>walk_at "k3")
  (case cl_Buyer=>walk_at "k4")
  (case mk_Buyer=>walk_at "k4")
  (case na_Buyer_spent=>walk_at "kn")
  (case na_Buyer_standing=>walk_at "kn")
  (case na_Buyer_world=>walk_at "kn")
  (case ic_Buyer_Buyer=>walk_at "k5")
  (case ic_Buyer_Bound=>walk_at "k5")
  (case ic_Buyer_Rule=>walk_at "k5")
  (case me_Buyer_factor=>walk_at "k3")
  (case me_Buyer_learn=>walk_at "k3")
  (case me_Buyer_paid=>walk_at "k3")
  (case me_Buyer_pay=>walk_at "k3")
  (case me_Buyer_price_to=>walk_at "k3")
  (case me_Buyer_state=>walk_at "k3")
  (case me_Buyer_target=>walk_at "k3")
  (case cl_Line=>walk_at "k4")
  (case mk_Line=>walk_at "k4")
  (case na_Line_many=>walk_at "kn")
  (case ic_Line_Line=>walk_at "k5")
  (case ic_Line_World=>walk_at "k5")
  (case me_Line_is_state=>walk_at "k3")
  (case me_Line_is_wish=>walk_at "k3")
  (case me_Line_price=>walk_at "k3")
  (case cl_Both=>walk_at "k4")
  (case mk_Both=>walk_at "k4")
  (case na_Both_spent=>walk_at "kn")
  (case na_Both_standing=>walk_at "kn")
  (case na_Both_world=>walk_at "kn")
  (case ic_Both_Both=>walk_at "k5")
  (case ic_Both_Bound=>walk_at "k5")
  (case ic_Both_Rule=>walk_at "k5")
  (case me_Both_factor=>walk_at "k3")
  (case me_Both_learn=>walk_at "k3")
  (case me_Both_paid=>walk_at "k3")
  (case me_Both_pay=>walk_at "k3")
  (case me_Both_price_to=>walk_at "k3")
  (case me_Both_state=>walk_at "k3")
  (case me_Both_target=>walk_at "k3")
  (case cl_Shelf=>walk_at "k4")
  (case mk_Shelf=>walk_at "k4")
  (case na_Shelf_things=>walk_at "kn")
  (case ic_Shelf_Shelf=>walk_at "k5")
  (case ic_Shelf_World=>walk_at "k5")
  (case me_Shelf_is_state=>walk_at "k3")
  (case me_Shelf_is_wish=>walk_at "k3")
  (case me_Shelf_price=>walk_at "k3")
  (case cl_Front=>walk_at "k4")
  (case mk_Front=>walk_at "k4")
  (case na_Front_spent=>walk_at "kn")
  (case na_Front_standing=>walk_at "kn")
  (case na_Front_world=>walk_at "kn")
  (case ic_Front_Front=>walk_at "k5")
  (case ic_Front_Bound=>walk_at "k5")
  (case ic_Front_Rule=>walk_at "k5")
  (case me_Front_factor=>walk_at "k3")
  (case me_Front_learn=>walk_at "k3")
  (case me_Front_paid=>walk_at "k3")
  (case me_Front_pay=>walk_at "k3")
  (case me_Front_price_to=>walk_at "k3")
  (case me_Front_state=>walk_at "k3")
  (case me_Front_target=>walk_at "k3")
  (case cl_Store=>walk_at "k4")
  (case mk_Store=>walk_at "k4")
  (case na_Store_many=>walk_at "kn")
  (case ic_Store_Store=>walk_at "k5")
  (case ic_Store_World=>walk_at "k5")
  (case me_Store_is_state=>walk_at "k3")
  (case me_Store_is_wish=>walk_at "k3")
  (case me_Store_price=>walk_at "k3")
  (case cl_Keeper=>walk_at "k4")
  (case mk_Keeper=>walk_at "k4")
  (case na_Keeper_row=>walk_at "kn")
  (case na_Keeper_spent=>walk_at "kn")
  (case na_Keeper_standing=>walk_at "kn")
  (case na_Keeper_world=>walk_at "kn")
  (case ic_Keeper_Keeper=>walk_at "k5")
  (case ic_Keeper_Bound=>walk_at "k5")
  (case ic_Keeper_Rule=>walk_at "k5")
  (case me_Keeper_factor=>walk_at "k3")
  (case me_Keeper_learn=>walk_at "k3")
  (case me_Keeper_pages=>walk_at "k3")
  (case me_Keeper_paid=>walk_at "k3")
  (case me_Keeper_pay=>walk_at "k3")
  (case me_Keeper_price_to=>walk_at "k3")
  (case me_Keeper_row_behind=>walk_at "k3")
  (case me_Keeper_state=>walk_at "k3")
  (case me_Keeper_target=>walk_at "k3")
  (case cl_Ways=>walk_at "k4")
  (case mk_Ways=>walk_at "k4")
  (case na_Ways_many=>walk_at "kn")
  (case na_Ways_toll=>walk_at "kn")
  (case ic_Ways_Ways=>walk_at "k5")
  (case ic_Ways_World=>walk_at "k5")
  (case me_Ways_is_state=>walk_at "k3")
  (case me_Ways_is_wish=>walk_at "k3")
  (case me_Ways_price=>walk_at "k3")
  (case cl_Changer=>walk_at "k4")
  (case mk_Changer=>walk_at "k4")
  (case na_Changer_reckoned=>walk_at "kn")
  (case na_Changer_spent=>walk_at "kn")
  (case na_Changer_standing=>walk_at "kn")
  (case na_Changer_world=>walk_at "kn")
  (case ic_Changer_Changer=>walk_at "k5")
  (case ic_Changer_Bound=>walk_at "k5")
  (case ic_Changer_Rule=>walk_at "k5")
  (case me_Changer_charged=>walk_at "k3")
  (case me_Changer_factor=>walk_at "k3")
  (case me_Changer_learn=>walk_at "k3")
  (case me_Changer_numbers=>walk_at "k3")
  (case me_Changer_paid=>walk_at "k3")
  (case me_Changer_pay=>walk_at "k3")
  (case me_Changer_price_to=>walk_at "k3")
  (case me_Changer_state=>walk_at "k3")
  (case me_Changer_target=>walk_at "k3")
  (case z_abs=>walk_at "k0")
  (case z_all=>walk_at "k0")
  (case z_bool=>walk_at "k0")
  (case z_int=>walk_at "k0")
  (case z_isinstance=>walk_at "k0")
  (case z_len=>walk_at "k0")
  (case z_list=>walk_at "k0")
  (case z_max=>walk_at "k0")
  (case z_min=>walk_at "k0")
  (case z_range=>walk_at "k0")
  (case z_set=>walk_at "k0")
  (case z_sorted=>walk_at "k0")
  (case z_str=>walk_at "k0")
  (case z_sum=>walk_at "k0")
  (case z_tuple=>walk_at "k0")
  (case z_zip=>walk_at "k0")
  (case zk_MOST_BAGS=>k_is)
end
namespace Q
open PySem PySem.Spec PyProof.Rows L2
local macro_rules | `(tactic| walk_at "v") => `(tactic| repeat walk_at "vs")
local macro_rules | `(tactic| walk_at "side")=>`(tactic| first | exact⟨by decide,by decide,by decide⟩ | exact Or.inl ⟨by omega,by omega⟩ | exact Or.inr (Or.inl ⟨by omega,by omega⟩) | exact⟨by omega,by omega⟩ | omega | decide)
local macro_rules | `(tactic| walk_at "hp")=>`(tactic| first | assumption | ((refine up (H:=?kH) ?ke ?kf);(case ke=>assumption);(case kf=>walk_at "hp")))
local macro_rules | `(tactic| walk_at "vs")=>`(tactic| first
 | ((with_reducible refine r_var (v:=?kv) ?kh ?_);(case kh=>exact rfl))
 | with_reducible refine r_op ?_
 | with_reducible refine r_c ?_
 | with_reducible refine r_seq ?_
 | with_reducible refine r_asg ?_
 | with_reducible refine jds ?_
 | with_reducible refine r_if ?_
 | with_reducible refine r_test ?_
 | with_reducible refine r_bl ?_
 | with_reducible refine r_I0 ?_
 | with_reducible refine jeb ?_
 | with_reducible refine jer ?_
 | with_reducible refine r_leWI ?_
 | with_reducible refine r_leWS ?_
 | ((with_reducible refine jbo ?kc ?_);(case kc=>walk_at "side"))
 | with_reducible refine jdu ?_
 | with_reducible refine r_pow6 ?_
 | with_reducible refine r_pow9 ?_
 | with_reducible refine r_powM ?_
 | ((with_reducible refine r_I ?kc ?_);(case kc=>walk_at "side"))
 | with_reducible refine r_eqUI ?_
 | with_reducible refine r_neI ?_
 | with_reducible refine r_neUI ?_
 | with_reducible refine r_ret ?_
 | with_reducible refine r_next ?_
 | with_reducible refine r_drop ?_
 | with_reducible refine r_not ?_
 | with_reducible refine jdv ?_
 | with_reducible refine r_blT ?_
 | with_reducible refine r_and ?_
 | with_reducible refine r_or ?_
 | with_reducible refine r_andV ?_
 | with_reducible refine r_orV ?_
 | with_reducible refine r_notV ?_
 | with_reducible refine r_ifE ?_
 | with_reducible refine jdw ?_
 | with_reducible refine r_un ?_
 | with_reducible refine r_rU ?_
 | with_reducible refine r_call ?_
 | with_reducible refine r_cb ?_
 | with_reducible refine r_cons ?_
 | with_reducible refine r_nil ?_
 | with_reducible refine r_meth ?_
 | ((with_reducible refine r_self (dx:=?kd) (fs:=?kf) ?kh ?kl ?_);(case kh=>walk_at "hp");(case kl=>exact rfl))
 | with_reducible refine jdx ?_
 | with_reducible refine jdy ?_
 | with_reducible refine r_make ?_
 | with_reducible refine r_fldK ?_
 | ((with_reducible refine r_fat (C:=?kC) (dx:=?kd) (fs:=?kf) (v:=?kv) ?kh ?kc ?kn ?kl ?_);(case kh=>walk_at "hp");(case kc=>assumption);(case kn=>assumption);(case kl=>exact rfl))
 | with_reducible refine r_sfld ?_
 | with_reducible refine r_tup ?_
 | with_reducible refine r_lst ?_
 | ((with_reducible refine r_newT ?kc ?_);(case kc=>exact rfl))
 | ((with_reducible refine r_newL ?kc ?_);(case kc=>exact rfl))
 | with_reducible refine r_dnew ?_
 | with_reducible refine r_retN ?_
 | with_reducible refine r_for ?_
 | with_reducible refine r_rng1 ?_
 | with_reducible refine r_rng2 ?_
 | with_reducible refine r_by2 ?_
 | with_reducible refine r_zip2 ?_
 | with_reducible refine r_enum ?_
 | with_reducible refine r_enum1 ?_
 | with_reducible refine r_comp ?_
 | with_reducible refine j2a ?_
 | with_reducible refine jck ?_
 | with_reducible refine r_gsub ?_
 | with_reducible refine r_sl ?_
 | with_reducible refine jcj ?_
 | with_reducible refine r_part ?_
 | with_reducible refine jec ?_
 | with_reducible refine r_intT ?_
 | with_reducible refine jdz ?_
 | with_reducible refine r_itup ?_
 | with_reducible refine r_bm ?_
 | with_reducible refine r_bm0 ?_
 | ((with_reducible refine r_tyl (xs:=?kx) ?kh ?_);(case kh=>walk_at "hp"))
 | with_reducible refine r_tm ?_
 | ((with_reducible refine r_tyT (xs:=?kx) ?kh ?_);(case kh=>walk_at "hp"))
 | with_reducible refine r_sm ?_
 | with_reducible refine r_dget ?_
 | with_reducible refine r_dput ?_
 | with_reducible refine r_tyS ?_
 | with_reducible refine r_istr ?_
 | with_reducible refine r_gnil ?_
 | with_reducible refine je0 ?_
 | ((with_reducible refine je1 (xs:=?kx) ?kh ?kl ?_);(case kh=>walk_at "hp");(case kl=>exact rfl))
 | with_reducible refine r_max ?_
 | with_reducible refine r_min ?_
 | with_reducible refine r_abs ?_
 | with_reducible refine r_intI ?_
 | with_reducible refine r_intB ?_
 | with_reducible refine r_isN ?_
 | with_reducible refine r_notN ?_
 | with_reducible refine r_try ?_
 | with_reducible refine r_tryN ?_
 | with_reducible refine r_raiseT ?_
 | with_reducible refine r_getG ?_
 | with_reducible refine r_gone ?_
 | with_reducible refine r_efldK ?_
 | with_reducible refine r_terr ?_
 | ((with_reducible refine iteTc ?kh ?_);(case kh=>exact rfl))
 | ((with_reducible refine iteFc ?kh ?_);(case kh=>exact rfl)))
section
variable {P:Program}{w:World}{K:PySem.W.Frag}{mg:Str→Option Value}{base:Heap}{a:Adr}
seal PA PE PS PSs PT
theorem j38:FnScope ["_law_script","_law_word","_law_start_here","_law_cells","_law_wishes","_law_rule","_law_other","_law_pair","_law_twin","_law_first","_law_k"] ["_law_script"] (j06 s_z91):=⟨rfl,rfl,rfl,by decide +kernel,rfl,by decide +kernel,by decide +kernel⟩
theorem sc_z84:FnScope ["_law_found","_law_due"] ["_law_found","_law_due"] (j06 s_z84):=⟨rfl,rfl,rfl,by decide +kernel,rfl,by decide +kernel,by decide +kernel⟩
theorem sc_z78:FnScope ["_law_found"] ["_law_found"] (j06 s_z78):=⟨rfl,rfl,rfl,by decide +kernel,rfl,by decide +kernel,by decide +kernel⟩
theorem jct:FnScope ["_law_found","_law_due","_law_one","_law_other"] ["_law_found","_law_due"] (j06 s_z37):=⟨rfl,rfl,rfl,by decide +kernel,rfl,by decide +kernel,by decide +kernel⟩
theorem j1x:FnScope ["self","wish","after","cost"] ["self","wish"] (j06 s_z79):=⟨rfl,rfl,rfl,by decide +kernel,rfl,by decide +kernel,by decide +kernel⟩
theorem sc_z28:FnScope ["self","wish"] ["self","wish"] (j06 s_z28):=⟨rfl,rfl,rfl,by decide +kernel,rfl,by decide +kernel,by decide +kernel⟩
theorem sc_z0:FnScope ["self","size"] ["self","size"] (j06 s_z0):=⟨rfl,rfl,rfl,by decide +kernel,rfl,by decide +kernel,by decide +kernel⟩
theorem sc_z4:FnScope ["self","wish","after"] ["self","wish","after"] (j06 s_z4):=⟨rfl,rfl,rfl,by decide +kernel,rfl,by decide +kernel,by decide +kernel⟩
theorem sc_z15:FnScope ["self","wish"] ["self","wish"] (j06 s_z15):=⟨rfl,rfl,rfl,by decide +kernel,rfl,by decide +kernel,by decide +kernel⟩
theorem sc_z24:FnScope ["self","thing"] ["self","thing"] (j06 s_z24):=⟨rfl,rfl,rfl,by decide +kernel,rfl,by decide +kernel,by decide +kernel⟩
theorem sc_z11:FnScope ["thing","most"] ["thing","most"] (j06 s_z11):=⟨rfl,rfl,rfl,by decide +kernel,rfl,by decide +kernel,by decide +kernel⟩
theorem sc_z6:FnScope ["thing"] ["thing"] (j06 s_z6):=⟨rfl,rfl,rfl,by decide +kernel,rfl,by decide +kernel,by decide +kernel⟩
theorem sc_z33:FnScope ["self","wish"] ["self","wish"] (j06 s_z33):=⟨rfl,rfl,rfl,by decide +kernel,rfl,by decide +kernel,by decide +kernel⟩
theorem sc_z1:FnScope ["self","wish"] ["self","wish"] (j06 s_z1):=⟨rfl,rfl,rfl,by decide +kernel,rfl,by decide +kernel,by decide +kernel⟩
theorem j9t:FnScope ["self","wish","after"] ["self","wish","after"] (j06 s_z20):=⟨rfl,rfl,rfl,by decide +kernel,rfl,by decide +kernel,by decide +kernel⟩
theorem sc_z47:FnScope ["self","before","wish","after"] ["self","before","wish","after"] (j06 s_z47):=⟨rfl,rfl,rfl,by decide +kernel,rfl,by decide +kernel,by decide +kernel⟩
theorem sc_z18:FnScope ["self","wish"] ["self","wish"] (j06 s_z18):=⟨rfl,rfl,rfl,by decide +kernel,rfl,by decide +kernel,by decide +kernel⟩
theorem sc_z22:FnScope ["self","thing"] ["self","thing"] (j06 s_z22):=⟨rfl,rfl,rfl,by decide +kernel,rfl,by decide +kernel,by decide +kernel⟩
theorem sc_z86:FnScope ["thing"] ["thing"] (j06 s_z86):=⟨rfl,rfl,rfl,by decide +kernel,rfl,by decide +kernel,by decide +kernel⟩
theorem jcu:FnScope ["self","wish","fresh","far"] ["self","wish"] (j06 s_z13):=⟨rfl,rfl,rfl,by decide +kernel,rfl,by decide +kernel,by decide +kernel⟩
theorem sc_z2:FnScope ["self","charges"] ["self","charges"] (j06 s_z2):=⟨rfl,rfl,rfl,by decide +kernel,rfl,by decide +kernel,by decide +kernel⟩
theorem sc_z59:FnScope ["self","before","wish","after"] ["self","before","wish","after"] (j06 s_z59):=⟨rfl,rfl,rfl,by decide +kernel,rfl,by decide +kernel,by decide +kernel⟩
theorem jhl:FnScope ["self","wish","fresh","least"] ["self","wish"] (j06 s_z8):=⟨rfl,rfl,rfl,by decide +kernel,rfl,by decide +kernel,by decide +kernel⟩
theorem sc_z36:FnScope ["self","thing"] ["self","thing"] (j06 s_z36):=⟨rfl,rfl,rfl,by decide +kernel,rfl,by decide +kernel,by decide +kernel⟩
theorem sc_z71:FnScope ["thing"] ["thing"] (j06 s_z71):=⟨rfl,rfl,rfl,by decide +kernel,rfl,by decide +kernel,by decide +kernel⟩
theorem sc_z55:FnScope ["self","wish"] ["self","wish"] (j06 s_z55):=⟨rfl,rfl,rfl,by decide +kernel,rfl,by decide +kernel,by decide +kernel⟩
theorem sc_z53:FnScope ["self","before","wish","after"] ["self","before","wish","after"] (j06 s_z53):=⟨rfl,rfl,rfl,by decide +kernel,rfl,by decide +kernel,by decide +kernel⟩
theorem sc_z26:FnScope ["self","wish"] ["self","wish"] (j06 s_z26):=⟨rfl,rfl,rfl,by decide +kernel,rfl,by decide +kernel,by decide +kernel⟩
theorem sc_z32:FnScope ["self","thing"] ["self","thing"] (j06 s_z32):=⟨rfl,rfl,rfl,by decide +kernel,rfl,by decide +kernel,by decide +kernel⟩
theorem sc_z46:FnScope ["self","before","wish","after"] ["self","before","wish","after"] (j06 s_z46):=⟨rfl,rfl,rfl,by decide +kernel,rfl,by decide +kernel,by decide +kernel⟩
theorem sc_z40:FnScope ["before","after"] ["before","after"] (j06 s_z40):=⟨rfl,rfl,rfl,by decide +kernel,rfl,by decide +kernel,by decide +kernel⟩
theorem jf0:FnScope ["order","at","other","place"] ["order","at","other"] (j06 s_z62):=⟨rfl,rfl,rfl,by decide +kernel,rfl,by decide +kernel,by decide +kernel⟩
theorem sc_z31:FnScope ["self","wish"] ["self","wish"] (j06 s_z31):=⟨rfl,rfl,rfl,by decide +kernel,rfl,by decide +kernel,by decide +kernel⟩
theorem sc_z21:FnScope ["self","thing"] ["self","thing"] (j06 s_z21):=⟨rfl,rfl,rfl,by decide +kernel,rfl,by decide +kernel,by decide +kernel⟩
theorem sc_z54:FnScope ["self","before","wish","after"] ["self","before","wish","after"] (j06 s_z54):=⟨rfl,rfl,rfl,by decide +kernel,rfl,by decide +kernel,by decide +kernel⟩
theorem sc_z41:FnScope ["before","after"] ["before","after"] (j06 s_z41):=⟨rfl,rfl,rfl,by decide +kernel,rfl,by decide +kernel,by decide +kernel⟩
theorem jb1:FnScope ["self","wish","left","right","step"] ["self","wish"] (j06 s_z43):=⟨rfl,rfl,rfl,by decide +kernel,rfl,by decide +kernel,by decide +kernel⟩
theorem sc_z35:FnScope ["self","thing"] ["self","thing"] (j06 s_z35):=⟨rfl,rfl,rfl,by decide +kernel,rfl,by decide +kernel,by decide +kernel⟩
theorem sc_z80:FnScope ["thing"] ["thing"] (j06 s_z80):=⟨rfl,rfl,rfl,by decide +kernel,rfl,by decide +kernel,by decide +kernel⟩
theorem jf1:FnScope ["_law_word","_law_start_here","_law_rule","_law_pair","_law_world"] ["_law_word","_law_start_here","_law_rule","_law_pair"] (j06 s_z82):=⟨rfl,rfl,rfl,by decide +kernel,rfl,by decide +kernel,by decide +kernel⟩
theorem sc_z61:FnScope ["_law_word","_law_start_here"] ["_law_word","_law_start_here"] (j06 s_z61):=⟨rfl,rfl,rfl,by decide +kernel,rfl,by decide +kernel,by decide +kernel⟩
theorem sc_z14:FnScope ["self"] ["self"] (j06 s_z14):=⟨rfl,rfl,rfl,by decide +kernel,rfl,by decide +kernel,by decide +kernel⟩
theorem sc_z17:FnScope ["self"] ["self"] (j06 s_z17):=⟨rfl,rfl,rfl,by decide +kernel,rfl,by decide +kernel,by decide +kernel⟩
theorem sc_z7:FnScope ["self"] ["self"] (j06 s_z7):=⟨rfl,rfl,rfl,by decide +kernel,rfl,by decide +kernel,by decide +kernel⟩
theorem sc_z25:FnScope ["self"] ["self"] (j06 s_z25):=⟨rfl,rfl,rfl,by decide +kernel,rfl,by decide +kernel,by decide +kernel⟩
theorem jf2:FnScope ["self","many"] ["self"] (j06 s_z30):=⟨rfl,rfl,rfl,by decide +kernel,rfl,by decide +kernel,by decide +kernel⟩
theorem sc_z42:FnScope ["self"] ["self"] (j06 s_z42):=⟨rfl,rfl,rfl,by decide +kernel,rfl,by decide +kernel,by decide +kernel⟩
theorem j8a:FnScope ["self"] ["self"] (j06 s_z68):=⟨rfl,rfl,rfl,by decide +kernel,rfl,by decide +kernel,by decide +kernel⟩
theorem j8b:FnScope ["self"] ["self"] (j06 s_z56):=⟨rfl,rfl,rfl,by decide +kernel,rfl,by decide +kernel,by decide +kernel⟩
theorem sc_z39:FnScope ["_law_word","_law_rule"] ["_law_word","_law_rule"] (j06 s_z39):=⟨rfl,rfl,rfl,by decide +kernel,rfl,by decide +kernel,by decide +kernel⟩
theorem sc_z12:FnScope ["self","thing"] ["self","thing"] (j06 s_z12):=⟨rfl,rfl,rfl,by decide +kernel,rfl,by decide +kernel,by decide +kernel⟩
theorem sc_z10:FnScope ["self","thing"] ["self","thing"] (j06 s_z10):=⟨rfl,rfl,rfl,by decide +kernel,rfl,by decide +kernel,by decide +kernel⟩
theorem sc_z70:FnScope ["thing"] ["thing"] (j06 s_z70):=⟨rfl,rfl,rfl,by decide +kernel,rfl,by decide +kernel,by decide +kernel⟩
theorem sc_z23:FnScope ["self","thing"] ["self","thing"] (j06 s_z23):=⟨rfl,rfl,rfl,by decide +kernel,rfl,by decide +kernel,by decide +kernel⟩
theorem sc_z16:FnScope ["self","thing"] ["self","thing"] (j06 s_z16):=⟨rfl,rfl,rfl,by decide +kernel,rfl,by decide +kernel,by decide +kernel⟩
theorem sc_z9:FnScope ["self","thing"] ["self","thing"] (j06 s_z9):=⟨rfl,rfl,rfl,by decide +kernel,rfl,by decide +kernel,by decide +kernel⟩
theorem sc_z19:FnScope ["self","thing"] ["self","thing"] (j06 s_z19):=⟨rfl,rfl,rfl,by decide +kernel,rfl,by decide +kernel,by decide +kernel⟩
theorem sc_z38:FnScope ["_law_word","_law_world"] ["_law_word","_law_world"] (j06 s_z38):=⟨rfl,rfl,rfl,by decide +kernel,rfl,by decide +kernel,by decide +kernel⟩
theorem sc_z72:FnScope ["_law_word","_law_start_here"] ["_law_word","_law_start_here"] (j06 s_z72):=⟨rfl,rfl,rfl,by decide +kernel,rfl,by decide +kernel,by decide +kernel⟩
theorem sc_z77:FnScope ["_law_word","_law_rule","_law_twin"] ["_law_word","_law_rule","_law_twin"] (j06 s_z77):=⟨rfl,rfl,rfl,by decide +kernel,rfl,by decide +kernel,by decide +kernel⟩
theorem sc_z29:FnScope ["self"] ["self"] (j06 s_z29):=⟨rfl,rfl,rfl,by decide +kernel,rfl,by decide +kernel,by decide +kernel⟩
theorem sc_z34:FnScope ["self"] ["self"] (j06 s_z34):=⟨rfl,rfl,rfl,by decide +kernel,rfl,by decide +kernel,by decide +kernel⟩
theorem sc_z3:FnScope ["self"] ["self"] (j06 s_z3):=⟨rfl,rfl,rfl,by decide +kernel,rfl,by decide +kernel,by decide +kernel⟩
theorem j9u:FnScope ["_law_rule","_law_world","_law_wish_here","_law_before","_law_total","_law_cost","_law_after"] ["_law_rule","_law_world","_law_wish_here"] (j06 s_z83):=⟨rfl,rfl,rfl,by decide +kernel,rfl,by decide +kernel,by decide +kernel⟩
theorem jf3:FnScope ["self","before","wish","after","places"] ["self","before","wish","after"] (j06 s_z50):=⟨rfl,rfl,rfl,by decide +kernel,rfl,by decide +kernel,by decide +kernel⟩
theorem sc_z89:FnScope ["loads","at","size"] ["loads","at","size"] (j06 s_z89):=⟨rfl,rfl,rfl,by decide +kernel,rfl,by decide +kernel,by decide +kernel⟩
theorem sc_z90:FnScope ["loads","size"] ["loads","size"] (j06 s_z90):=⟨rfl,rfl,rfl,by decide +kernel,rfl,by decide +kernel,by decide +kernel⟩
theorem sc_z48:FnScope ["_law_word","_law_start_here"] ["_law_word","_law_start_here"] (j06 s_z48):=⟨rfl,rfl,rfl,by decide +kernel,rfl,by decide +kernel,by decide +kernel⟩
theorem sc_z44:FnScope ["self","room"] ["self","room"] (j06 s_z44):=⟨rfl,rfl,rfl,by decide +kernel,rfl,by decide +kernel,by decide +kernel⟩
theorem j8c:FnScope ["self","world","start"] ["self","world","start"] (j06 s_z67):=⟨rfl,rfl,rfl,by decide +kernel,rfl,by decide +kernel,by decide +kernel⟩
theorem sc_z63:FnScope ["self","room"] ["self","room"] (j06 s_z63):=⟨rfl,rfl,rfl,by decide +kernel,rfl,by decide +kernel,by decide +kernel⟩
theorem sc_z45:FnScope ["self","pages"] ["self","pages"] (j06 s_z45):=⟨rfl,rfl,rfl,by decide +kernel,rfl,by decide +kernel,by decide +kernel⟩
theorem sc_z58:FnScope ["self","many"] ["self","many"] (j06 s_z58):=⟨rfl,rfl,rfl,by decide +kernel,rfl,by decide +kernel,by decide +kernel⟩
theorem sc_z5:FnScope ["thing"] ["thing"] (j06 s_z5):=⟨rfl,rfl,rfl,by decide +kernel,rfl,by decide +kernel,by decide +kernel⟩
theorem sc_z27:FnScope ["self","many","toll","start"] ["self","many","toll","start"] (j06 s_z27):=⟨rfl,rfl,rfl,by decide +kernel,rfl,by decide +kernel,by decide +kernel⟩
theorem sc_z69:FnScope ["self","many","toll"] ["self","many","toll"] (j06 s_z69):=⟨rfl,rfl,rfl,by decide +kernel,rfl,by decide +kernel,by decide +kernel⟩
theorem sc_z51:FnScope ["self","whole"] ["self","whole"] (j06 s_z51):=⟨rfl,rfl,rfl,by decide +kernel,rfl,by decide +kernel,by decide +kernel⟩
theorem sc_z65:FnScope ["self","whole"] ["self","whole"] (j06 s_z65):=⟨rfl,rfl,rfl,by decide +kernel,rfl,by decide +kernel,by decide +kernel⟩
theorem sc_z52:FnScope ["self","start"] ["self","start"] (j06 s_z52):=⟨rfl,rfl,rfl,by decide +kernel,rfl,by decide +kernel,by decide +kernel⟩
theorem sc_z57:FnScope ["self","things"] ["self","things"] (j06 s_z57):=⟨rfl,rfl,rfl,by decide +kernel,rfl,by decide +kernel,by decide +kernel⟩
theorem sc_z64:FnScope ["self","start"] ["self","start"] (j06 s_z64):=⟨rfl,rfl,rfl,by decide +kernel,rfl,by decide +kernel,by decide +kernel⟩
theorem sc_z87:FnScope ["start"] ["start"] (j06 s_z87):=⟨rfl,rfl,rfl,by decide +kernel,rfl,by decide +kernel,by decide +kernel⟩
theorem sc_z66:FnScope ["self","many"] ["self","many"] (j06 s_z66):=⟨rfl,rfl,rfl,by decide +kernel,rfl,by decide +kernel,by decide +kernel⟩
theorem jf4:FnScope ["word","start","rule"] ["word","start"] (j06 s_z49):=⟨rfl,rfl,rfl,by decide +kernel,rfl,by decide +kernel,by decide +kernel⟩
theorem sc_z88:FnScope ["word","start"] ["word","start"] (j06 s_z88):=⟨rfl,rfl,rfl,by decide +kernel,rfl,by decide +kernel,by decide +kernel⟩
theorem jf5:FnScope ["_law_word","_law_start_here","_law_cell_here","_law_k","_law_number"] ["_law_word","_law_start_here","_law_cell_here","_law_k"] (j06 s_z85):=⟨rfl,rfl,rfl,by decide +kernel,rfl,by decide +kernel,by decide +kernel⟩
theorem jf6:FnScope ["_law_cell_here","_law_k","_law_number"] ["_law_cell_here","_law_k"] (j06 s_z60):=⟨rfl,rfl,rfl,by decide +kernel,rfl,by decide +kernel,by decide +kernel⟩
theorem jf7:FnScope ["_law_cell_here","_law_k","_law_number"] ["_law_cell_here","_law_k"] (j06 s_z73):=⟨rfl,rfl,rfl,by decide +kernel,rfl,by decide +kernel,by decide +kernel⟩
theorem j8d:FnScope ["_law_number","_law_many","_law_stem","_law_at","_law_names_here","_law_j","_law_sign"] ["_law_number","_law_many"] (j06 s_z74):=⟨rfl,rfl,rfl,by decide +kernel,rfl,by decide +kernel,by decide +kernel⟩
theorem sc_z75:FnScope ["_law_cell_here","_law_k"] ["_law_cell_here","_law_k"] (j06 s_z75):=⟨rfl,rfl,rfl,by decide +kernel,rfl,by decide +kernel,by decide +kernel⟩
theorem jb2:FnScope ["_law_script","_law_cell_here","_law_number","_law_word"] ["_law_script"] (j06 s_z76):=⟨rfl,rfl,rfl,by decide +kernel,rfl,by decide +kernel,by decide +kernel⟩
theorem sc_z81:FnScope ["_law_script","_law_k"] ["_law_script","_law_k"] (j06 s_z81):=⟨rfl,rfl,rfl,by decide +kernel,rfl,by decide +kernel,by decide +kernel⟩
namespace Nb
def beh (ps:List Int) (s R:Int):List Int:=if ps≠[]∧ps.getLastD 0+s≤R then ps.dropLast++[ps.getLastD 0+s] else ps++[s]
theorem ixN_last {n:Nat} (h:0 < n):ixN n (-1)=some (n-1):=by
 unfold ixN
 rw[if_neg (by decide),if_pos (by omega)]
 congr 1
 omega
theorem atI_last' {ns:List Int} (h:ns≠[]):atI (ns.map V.int) (-1)=some (.int (ns.getLastD 0)):=by
 have hl:0 < ns.length:=List.length_pos_iff.mpr h
 unfold atI
 rw[List.length_map,ixN_last hl]
 show (ns.map V.int)[ns.length-1]?=_
 rw[List.getElem?_map,List.getElem?_eq_getElem (by omega),List.getLastD_eq_getLast?,List.getLast?_eq_getElem?,List.getElem?_eq_getElem (by omega)]
 rfl
theorem jcv {ns:List Int} (h:ns≠[]):cutV (ns.map V.int) none (some (-1))=ns.dropLast.map V.int:=by
 have hl:0 < ns.length:=List.length_pos_iff.mpr h
 unfold cutV
 rw[HT.sIx_none,List.drop_zero,Nat.sub_zero,List.length_map]
 have e:HT.sIx ns.length ns.length (some (-1))=ns.length-1:=by
  show (if (-1:Int) < 0 then ((-1)+(ns.length:Int)).toNat else min (-1:Int).toNat ns.length)=_
  rw[if_pos (by decide)]
  omega
 rw[e,← List.map_take,List.dropLast_eq_take]
theorem beh_len (ps:List Int) (s R:Int):(beh ps s R).length≤ps.length+1:=by
 unfold beh
 split
 ·rename_i h
  have:=List.length_pos_iff.mpr h.1
  simp
  try omega
 ·simp
end Nb
namespace Nb
def gfl (wo st q:Addr) (z:Int):List (Str × V):=[("world",.ref wo),("standing",.ref st),("spent",.int z),("packed",.ref q)]
structure BagAt (a:Adr) (H:Hp) (r:Addr) (R:Int) (ps ss:List Int) (z:Int):Prop where
 ex:∃ dx wo dw st q,H r=some (.ins a.c_Filler dx (gfl wo st q z))∧H wo=some (.ins a.c_Bags dw [("room",.int R)])∧H st=some (.tup (ss.map V.int))∧H q=some (.lst (ps.map V.int))
theorem BagAt.ext {a:Adr}{H H':Hp}{r:Addr}{R z:Int}{ps ss:List Int} (e:Ext H H') (k:BagAt a H r R ps ss z):BagAt a H' r R ps ss z:=by
 obtain⟨dx,wo,dw,st,q,h1,h2,h3,h4⟩:=k.ex
 exact⟨dx,wo,dw,st,q,e _ _ h1,e _ _ h2,e _ _ h3,e _ _ h4⟩
structure BagQ (a:Adr) (H:Hp) (r:Addr) (R:Int) (ps ss:List Int) (z:Int) (q:Addr):Prop where
 ex:∃ dx wo dw st,H r=some (.ins a.c_Filler dx (gfl wo st q z))∧H wo=some (.ins a.c_Bags dw [("room",.int R)])∧H st=some (.tup (ss.map V.int))∧H q=some (.lst (ps.map V.int))
theorem BagQ.at_ {a:Adr}{H:Hp}{r q:Addr}{R z:Int}{ps ss:List Int} (k:BagQ a H r R ps ss z q):BagAt a H r R ps ss z:=by
 obtain⟨dx,wo,dw,st,h1,h2,h3,h4⟩:=k.ex
 exact⟨dx,wo,dw,st,q,h1,h2,h3,h4⟩
end Nb
namespace Nb
theorem set_perm:∀ (l:List Int) (i:Nat) (w:Int),i < l.length→(l.set i w).Perm (w :: l.eraseIdx i)
 | [],_,_,h=>by simp at h
 | x :: r,0,w,_=>List.Perm.refl _
 | x :: r,i+1,w,h=>by
  have:=set_perm r i w (by simpa using h)
  exact (this.cons x).trans (List.Perm.swap w x _)
theorem own_perm:∀ (l:List Int) (i:Nat),i < l.length→l.Perm (l.getD i 0 :: l.eraseIdx i)
 | [],_,h=>by simp at h
 | x :: r,0,_=>List.Perm.refl _
 | x :: r,i+1,h=>by
  have:=own_perm r i (by simpa using h)
  exact (this.cons x).trans (List.Perm.swap _ x _)
theorem jcw {l:List Int}{i j:Nat}{w:Int} (hi:i < l.length) (hj:j < l.length) (e:l.getD i 0=l.getD j 0):(l.set i w).Perm (l.set j w):=by
 have a:=(own_perm l i hi).symm.trans (own_perm l j hj)
 rw[e] at a
 have b:=(List.perm_cons _).mp a
 exact (set_perm l i w hi).trans ((b.cons w).trans (set_perm l j w hj).symm)
theorem j3p (v:Int):∀ {l:List Int},l.Pairwise (·≤·)→l=(l.filter fun x=>decide (x < v))++l.filter fun x=>!decide (x < v)
 | [],_=>rfl
 | x :: r,h=>by
  have hr:=j3p v (List.Pairwise.of_cons h)
  by_cases c:x < v
  ·simp only[List.filter_cons,decide_eq_true c,Bool.not_true,if_true,List.cons_append]
   rw[if_neg (by decide)]
   rw[← hr]
  ·have hx:=(List.pairwise_cons.mp h).1
   have e:r.filter (fun x=>decide (x < v))=[]:=by
    rw[List.filter_eq_nil_iff]
    intro y hy
    have:=hx y hy
    simp
    omega
   simp only[List.filter_cons,decide_eq_false c,Bool.not_false,if_true]
   rw[e] at hr
   rw[if_neg (by decide),e,List.nil_append]
   rw[List.nil_append] at hr
   rw[← hr]
theorem sorted_eq {a b:List Int} (h:a.Perm b) (s1:a.Pairwise (·≤·)) (s2:b.Pairwise (·≤·)):a=b :=
 List.Perm.eq_of_pairwise (fun x y _ _ h1 h2=>Int.le_antisymm h1 h2) s1 s2 h
theorem j9v {l m:List Int}{j:Nat} (h:j < l.length):(l++m).getD j 0=l.getD j 0:=by
 rw[List.getD_eq_getElem?_getD,List.getD_eq_getElem?_getD,List.getElem?_append_left h]
theorem jb3 {l m:List Int}{j:Nat} (h:¬ j < l.length) (h2:j < (l++m).length):(l++m).getD j 0∈m:=by
 rw[List.getD_eq_getElem?_getD,List.getElem?_append_right (by omega),List.getElem?_eq_getElem (by rw[List.length_append] at h2;omega)]
 exact List.getElem_mem _
theorem j9w {a b:List Int}{k j:Nat}{w:Int} (sa:a.Pairwise (·≤·)) (sb:b.Pairwise (·≤·)) (hk:k < a.length) (hw:a.getD k 0 < w) (hp:b.Perm (a.set k w)) (hj:j < a.length)
  (heq:∀ i,i < j→a.getD i 0=b.getD i 0) (hne:a.getD j 0≠b.getD j 0):a.getD j 0=a.getD k 0:=by
 have hlen:b.length=a.length:=by rw[hp.length_eq,List.length_set]
 generalize hv:a.getD k 0=v at *
 have pb:b.Perm (w :: a.eraseIdx k):=hp.trans (set_perm a k w hk)
 have pa:a.Perm (v :: a.eraseIdx k):=by have:=own_perm a k hk;rwa [hv] at this
 have c1:¬ a.getD j 0 < v:=by
  intro q
  have f:(a.filter fun x=>decide (x < v))=b.filter fun x=>decide (x < v):=by
   refine sorted_eq ?_ (sa.filter _) (sb.filter _)
   have e1:=pa.filter (fun x=>decide (x < v))
   have e2:=pb.filter (fun x=>decide (x < v))
   rw[List.filter_cons,if_neg (by simp)] at e1
   rw[List.filter_cons,if_neg (by simp;omega)] at e2
   exact e1.trans e2.symm
  have ea:=j3p v sa
  have eb:=j3p v sb
  by_cases hl:j < (a.filter fun x=>decide (x < v)).length
  ·refine hne ?_
   rw[ea,j9v hl,f,← j9v (m:=b.filter fun x=>!decide (x < v)) (by rw[← f];exact hl),← eb]
  ·have:=jb3 (m:=a.filter fun x=>!decide (x < v)) hl (by rw[← ea];exact hj)
   rw[← ea] at this
   have h3:=(List.mem_filter.mp this).2
   rw[decide_eq_true q] at h3
   cases h3
 by_cases c2:v < a.getD j 0
 ·exfalso
  have ct:∀ l:List Int,l.count v=(l.take j).count v+(l.drop j).count v:=fun l=>by
   rw[← List.count_append,List.take_append_drop]
  have tk:a.take j=b.take j:=by
   refine List.ext_getElem (by rw[List.length_take,List.length_take];omega) fun i h1 h2=>?_
   have hi:i < j:=by rw[List.length_take] at h1;omega
   have:=heq i hi
   rw[List.getD_eq_getElem?_getD,List.getD_eq_getElem?_getD,List.getElem?_eq_getElem (by omega),List.getElem?_eq_getElem (by omega)] at this
   rw[List.getElem_take,List.getElem_take]
   exact this
  have dz:(a.drop j).count v=0:=by
   rw[List.count_eq_zero]
   intro hm
   obtain⟨i,hi,e⟩:=List.getElem_of_mem hm
   rw[List.getElem_drop] at e
   have hij:j+i < a.length:=by rw[List.length_drop] at hi;omega
   have le:a[j]≤a[j+i]:=by
    by_cases z:i=0
    ·subst z;exact Int.le_refl _
    ·exact List.pairwise_iff_getElem.mp sa j (j+i) hj hij (by omega)
   rw[List.getD_eq_getElem?_getD,List.getElem?_eq_getElem hj,Option.getD_some] at c2
   omega
  have n1:=pa.count_eq v
  have n2:=pb.count_eq v
  rw[List.count_cons_self] at n1
  rw[List.count_cons_of_ne (by omega)] at n2
  have n3:=ct a
  have n4:=ct b
  rw[tk] at n3
  omega
 ·omega
theorem jb4 {a b:List Int}{k:Nat}{w:Int} (hk:k < a.length) (hw:a.getD k 0 < w) (hp:b.Perm (a.set k w)):∃ j,j < a.length∧a.getD j 0≠b.getD j 0:=by
 have hlen:b.length=a.length:=by rw[hp.length_eq,List.length_set]
 refine Classical.byContradiction fun no=>?_
 have e:a=b:=by
  refine List.ext_getElem hlen.symm fun j h1 h2=>?_
  refine Classical.byContradiction fun q=>no ⟨j,h1,?_⟩
  rw[List.getD_eq_getElem?_getD,List.getD_eq_getElem?_getD,List.getElem?_eq_getElem h1,List.getElem?_eq_getElem h2]
  exact q
 have pb:b.Perm (w :: a.eraseIdx k):=hp.trans (set_perm a k w hk)
 have pa:=own_perm a k hk
 rw[← e] at pb
 have n1:=pa.count_eq w
 have n2:=pb.count_eq w
 rw[List.count_cons_self] at n2
 rw[List.count_cons_of_ne (by omega)] at n1
 omega
def Goes (R:Int) (os:List Int) (s:Int) (fs:List Int) (pr:Int):Prop:=fs.Pairwise (·≤·)∧((pr=1∧fs.Perm (os++[s]))∨(pr=0∧∃ k,k < os.length∧os.getD k 0+s≤R∧fs.Perm (os.set k (os.getD k 0+s))))
def Lds (R:Int) (os:List Int):Prop:=os.Pairwise (·≤·)∧∀ x∈os,1≤x∧x≤R
theorem set_tk {l:List Int}{k:Nat}{w:Int} (h:k < l.length):l.take k++[w]++l.drop (k+1)=l.set k w:=by
 rw[List.set_eq_take_append_cons_drop,if_pos h]
 simp
end Nb
namespace Nh
def bfl (wo:Addr) (st z:Int):List (Str × V):=[("world",.ref wo),("standing",.int st),("spent",.int z)]
def hfl (W:Int):List (Str × V):=[("whole",.int W)]
structure BuyAt (a:Adr) (H:Hp) (r:Addr) (W st z:Int):Prop where
 ex:∃ dx wo dw,H r=some (.ins a.c_Buyer dx (bfl wo st z))∧H wo=some (.ins a.c_Hire dw (hfl W))
theorem BuyAt.ext {a:Adr}{H H':Hp}{r:Addr}{W st z:Int} (e:Ext H H') (h:BuyAt a H r W st z):BuyAt a H' r W st z:=by
 obtain⟨dx,wo,dw,h1,h2⟩:=h.ex
 exact⟨dx,wo,dw,e _ _ h1,e _ _ h2⟩
end Nh
namespace Nl
def lfl (wo st:Addr) (z:Int):List (Str × V):=[("world",.ref wo),("standing",.ref st),("spent",.int z)]
structure LineAt (a:Adr) (C:Addr) (H:Hp) (r:Addr) (ns:List Int) (z:Int):Prop where
 ex:∃ dx wo dw st,H r=some (.ins C dx (lfl wo st z))∧H wo=some (.ins a.c_Line dw [("many",.int ns.length)])∧H st=some (.tup (ns.map V.int))
theorem LineAt.ext {a:Adr}{C:Addr}{H H':Hp}{r:Addr}{ns:List Int}{z:Int} (e:Ext H H') (h:LineAt a C H r ns z):LineAt a C H' r ns z:=by
 obtain⟨dx,wo,dw,st,h1,h2,h3⟩:=h.ex
 exact⟨dx,wo,dw,st,e _ _ h1,e _ _ h2,e _ _ h3⟩
structure Good (ns:List Int):Prop where
 lo:1≤ns.length
 hi:ns.length≤6
 srt:ns.Pairwise (·≤·)
 pl:∀ x∈ns,-1000000000000000000≤x∧x≤1000000000000000000
def ways (ns ms:List Int):Int:=(List.zipWith (fun a b:Int=>((a-b).natAbs:Int)) ns ms).sum
def goB (ns:List Int) (w:Int):List Int :=
 if w∈ns then ns
 else if ns.filter (fun x=>decide (w < x))=[] then (ns.filter fun x=>decide (x < w)).dropLast++[w]
 else if ns.filter (fun x=>decide (x < w))=[] then w :: (ns.filter fun x=>decide (w < x)).tail
 else (ns.filter fun x=>decide (x < w)).dropLast++[(ns.filter fun x=>decide (x < w)).getLastD 0+min (w-(ns.filter fun x=>decide (x < w)).getLastD 0) ((ns.filter fun x=>decide (w < x)).headD 0-w)] ++
  ((ns.filter fun x=>decide (w < x)).headD 0-min (w-(ns.filter fun x=>decide (x < w)).getLastD 0) ((ns.filter fun x=>decide (w < x)).headD 0-w)) :: (ns.filter fun x=>decide (w < x)).tail
theorem jbt {w:Int}:∀ {ns:List Int},ns.Pairwise (·≤·)→w∉ns→ns=ns.filter (fun x=>decide (x < w))++ns.filter (fun x=>decide (w < x))
 | [],_,_=>rfl
 | b :: t,h,hw=>by
  obtain⟨h1,h2⟩:=List.pairwise_cons.mp h
  have hb:w≠b:=fun z=>hw (by rw[z];exact List.mem_cons_self)
  have ht:w∉t:=fun z=>hw (List.mem_cons_of_mem _ z)
  have ih:=jbt h2 ht
  by_cases c:b < w
  ·rw[List.filter_cons_of_pos (by simpa using c),List.filter_cons_of_neg (by simpa using Int.le_of_lt c),List.cons_append,← ih]
  ·have c':w < b:=by omega
   have e1:t.filter (fun x=>decide (x < w))=[]:=List.filter_eq_nil_iff.mpr fun x hx=>by have:=h1 x hx;simp;omega
   have e2:t.filter (fun x=>decide (w < x))=t:=by rw[e1,List.nil_append] at ih;exact ih.symm
   rw[List.filter_cons_of_neg (by simpa using c),List.filter_cons_of_pos (by simpa using c'),e1,e2]
   rfl
inductive Goes (w:Int):List Int→List Int→Prop where
 | stay {ns:List Int} (h:w∈ns):Goes w ns ns
 | up {L:List Int}{l:Int} (h:l < w):Goes w (L++[l]) (L++[w])
 | down {R:List Int}{r:Int} (h:w < r):Goes w (r :: R) (w :: R)
 | both {L R:List Int}{l r s:Int} (h1:l < w) (h2:w < r) (hs:s=min (w-l) (r-w)):Goes w (L++l :: r :: R) (L++(l+s) :: (r-s) :: R)
theorem j6p {ns:List Int}{w:Int} (h:ns.Pairwise (·≤·)) (h0:1≤ns.length):Goes w ns (goB ns w):=by
 unfold goB
 by_cases hw:w∈ns
 ·rw[if_pos hw];exact .stay hw
 ·rw[if_neg hw]
  have e:=jbt h hw
  have mL:∀ x∈ns.filter (fun x=>decide (x < w)),x < w:=fun x hx=>by simpa using (List.mem_filter.mp hx).2
  have mR:∀ x∈ns.filter (fun x=>decide (w < x)),w < x:=fun x hx=>by simpa using (List.mem_filter.mp hx).2
  generalize ns.filter (fun x=>decide (x < w))=L at *
  generalize ns.filter (fun x=>decide (w < x))=R at *
  subst e
  by_cases eR:R=[]
  ·subst eR
   rw[if_pos rfl]
   rcases List.eq_nil_or_concat L with rfl | ⟨L',l,rfl⟩
   ·simp at h0
   ·rw[List.append_nil,List.concat_eq_append,List.dropLast_concat]
    exact .up (mL l (by simp))
  ·rw[if_neg eR]
   cases R with
   | nil=>exact (eR rfl).elim
   | cons r R =>
    by_cases eL:L=[]
    ·subst eL
     rw[if_pos rfl]
     exact .down (mR r (by simp))
    ·rw[if_neg eL]
     rcases List.eq_nil_or_concat L with rfl | ⟨L',l,rfl⟩
     ·exact (eL rfl).elim
     ·rw[List.concat_eq_append,List.dropLast_concat,List.getLastD_eq_getLast?,List.getLast?_concat]
      have g:=Goes.both (w:=w) (L:=L') (R:=R) (l:=l) (r:=r) (mL l (by simp)) (mR r (by simp)) rfl
      simpa using g
theorem Goes.len {w:Int}{ns ms:List Int} (g:Goes w ns ms):ms.length=ns.length:=by
 cases g <;> simp
theorem Goes.mem {w:Int}{ns ms:List Int} (g:Goes w ns ms):w∈ms:=by
 cases g with
 | stay h=>exact h
 | up h=>simp
 | down h=>simp
 | both h1 h2 hs =>
  rename_i L R l r s
  by_cases c:w-l≤r-w
  ·have:l+s=w:=by omega
   rw[this];simp
  ·have:r-s=w:=by omega
   rw[this];simp
theorem Goes.sorted {w:Int}{ns ms:List Int} (g:Goes w ns ms) (h:ns.Pairwise (·≤·)):ms.Pairwise (·≤·):=by
 cases g with
 | stay _=>exact h
 | up hl =>
  rename_i L l
  rw[List.pairwise_append] at h ⊢
  refine⟨h.1,by simp,fun a ha b hb=>?_⟩
  have:=h.2.2 a ha l (by simp)
  have:b=w:=by simpa using hb
  omega
 | down hr =>
  rename_i R r
  rw[List.pairwise_cons] at h ⊢
  exact⟨fun b hb=>by have:=h.1 b hb;omega,h.2⟩
 | both h1 h2 hs =>
  rename_i L R l r s
  rw[List.pairwise_append] at h ⊢
  obtain⟨a1,a2,a3⟩:=h
  rw[List.pairwise_cons,List.pairwise_cons] at a2
  obtain⟨b1,b2,b3⟩:=a2
  refine⟨a1,?_,fun a ha b hb=>?_⟩
  ·rw[List.pairwise_cons,List.pairwise_cons]
   refine⟨fun b hb=>?_,fun b hb=>by have:=b2 b hb;omega,b3⟩
   rcases List.mem_cons.mp hb with z | z
   ·omega
   ·have:=b2 b z;omega
  ·have k1:=a3 a ha l (by simp)
   rcases List.mem_cons.mp hb with z | hb
   ·omega
   ·rcases List.mem_cons.mp hb with z | hb
    ·omega
    ·have:=a3 a ha b (by simp[hb]);omega
theorem Goes.pl {w lo hi:Int}{ns ms:List Int} (g:Goes w ns ms) (h0:lo≤w) (h1:w≤hi) (h:∀ x∈ns,lo≤x∧x≤hi):∀ x∈ms,lo≤x∧x≤hi:=by
 cases g with
 | stay _=>exact h
 | up hl =>
  intro x hx
  rcases List.mem_append.mp hx with z | z
  ·exact h x (List.mem_append_left _ z)
  ·have:x=w:=by simpa using z
   omega
 | down hr =>
  intro x hx
  rcases List.mem_cons.mp hx with z | z
  ·omega
  ·exact h x (List.mem_cons_of_mem _ z)
 | both a1 a2 hs =>
  rename_i L R l r s
  have kl:=h l (by simp)
  have kr:=h r (by simp)
  intro x hx
  rcases List.mem_append.mp hx with z | z
  ·exact h x (List.mem_append_left _ z)
  ·rcases List.mem_cons.mp z with z | z
   ·omega
   ·rcases List.mem_cons.mp z with z | z
    ·omega
    ·exact h x (List.mem_append_right _ (by simp[z]))
theorem Good.go {ns:List Int}{w:Int} (g:Good ns) (h0:-1000000000000000000≤w) (h1:w≤1000000000000000000):Good (goB ns w):=by
 have k:=j6p (w:=w) g.srt g.lo
 have l:=k.len
 exact⟨by rw[l];exact g.lo,by rw[l];exact g.hi,k.sorted g.srt,k.pl h0 h1 g.pl⟩
theorem goB_in {ns:List Int}{w:Int} (h:ns.Pairwise (·≤·)) (h0:1≤ns.length):w∈goB ns w:=(j6p h h0).mem
theorem goB_len {ns:List Int}{w:Int} (h:ns.Pairwise (·≤·)) (h0:1≤ns.length):(goB ns w).length=ns.length:=(j6p h h0).len
end Nl
def nmL (c:Nat):Bool:=decide (97≤c) && decide (c≤122)
def nmS (z:Str):Bool:=decide (1≤z.length) && decide (z.length≤8) && z.cps.toList.all nmL
theorem j7x {z:Str} (h:nmS z=true):AscS z:=by
 unfold nmS at h
 rw[Bool.and_eq_true] at h
 unfold AscS
 rw[Array.all_eq_true_iff_forall_mem]
 intro c hc
 have:=List.all_eq_true.mp h.2 c (by simpa using hc)
 unfold nmL at this
 rw[Bool.and_eq_true,decide_eq_true_iff,decide_eq_true_iff] at this
 exact decide_eq_true (by omega)
theorem j9x {z:Str} (h:nmS z=true):1≤z.length∧z.length≤8:=by
 unfold nmS at h
 rw[Bool.and_eq_true,Bool.and_eq_true,decide_eq_true_iff,decide_eq_true_iff] at h
 exact h.1
theorem cps_a:(Str.ofString "a").cps.toList=[97]:=by decide
theorem cps_z:(Str.ofString "z").cps.toList=[122]:=by decide
theorem le_a (c:Nat):(!decide (([c]:List Nat) < [97]))=decide (97≤c):=by
 rw[← decide_not]
 apply decide_eq_decide.mpr
 rw[List.cons_lt_cons_iff]
 simp
theorem le_z (c:Nat):(!decide (([122]:List Nat) < [c]))=decide (c≤122):=by
 rw[← decide_not]
 apply decide_eq_decide.mpr
 rw[List.cons_lt_cons_iff]
 simp
def nmV:V→Bool
 | .str z=>nmS z
 | _=>false
structure Names (ss:List Str):Prop where
 nm:∀ s∈ss,nmS s=true
 nd:ss.Nodup
 lo:1≤ss.length
 hi:ss.length≤8
theorem Names.perm {ss qs:List Str} (h:Names ss) (p:qs.Perm ss):Names qs:=⟨fun s hs=>h.nm s (p.mem_iff.mp hs),p.nodup_iff.mpr h.nd,by rw[p.length_eq];exact h.lo,by rw[p.length_eq];exact h.hi⟩
def ovt (o q:List Str) (i:Nat):Nat:=((o.drop (i+1)).filter fun t=>decide (q.idxOf t < q.idxOf (o.getD i ⟨#[]⟩))).length
def trn (o q:List Str):Int:=((List.range o.length).map fun i=>(ovt o q i:Int)).sum
def frt (w:Str) (ss:List Str):List Str:=w :: ss.filter fun t=>!decide (t=w)
theorem j7y {w:Str}{L R:List Str} (h:(L++w :: R).Nodup):frt w (L++w :: R)=w :: (L++R):=by
 unfold frt
 have hL:∀ t∈L,t≠w:=fun t ht e=>by
  rw[List.nodup_append] at h
  exact h.2.2 t ht w List.mem_cons_self e
 have hR:∀ t∈R,t≠w:=fun t ht e=>by
  rw[List.nodup_append] at h
  have:=(List.nodup_cons.mp h.2.1).1
  rw[e] at ht
  exact this ht
 rw[List.filter_append,List.filter_cons,if_neg (by simp),List.filter_eq_self.mpr fun t ht=>by simp[hL t ht],List.filter_eq_self.mpr fun t ht=>by simp[hR t ht]]
theorem j57 {w:Str}{ss:List Str} (h:ss.Nodup) (hw:w∈ss):(frt w ss).Perm ss:=by
 obtain⟨L,R,rfl⟩:=List.append_of_mem hw
 rw[j7y h]
 exact List.perm_middle.symm
theorem ones:∀ (n N:Nat),n≤N→((List.range N).map fun i=>if i < n then (1:Int) else 0).sum=n
 | n,0,h=>by
  have:n=0:=by omega
  subst this
  rfl
 | n,N+1,h=>by
  rw[List.range_succ,List.map_append,List.sum_append]
  by_cases e:n=N+1
  ·subst e
   have:(List.range N).map (fun i=>if i < N+1 then (1:Int) else 0)=(List.range N).map fun i=>if i < N then (1:Int) else 0:=List.map_congr_left fun i hi=>by
    have:=List.mem_range.mp hi
    rw[if_pos (by omega),if_pos this]
   rw[this,ones N N (Nat.le_refl _)]
   simp
  ·rw[ones n N (by omega)]
   simp
   omega
theorem idxC {w t:Str}{l:List Str} (h:w≠t):(w :: l).idxOf t=l.idxOf t+1:=by
 rw[List.idxOf_cons]
 have:(w == t)=false:=beq_eq_false_iff_ne.mpr h
 rw[this]
 rfl
theorem idxG:∀ {l:List Str},l.Nodup→∀ {i:Nat} (h:i < l.length),l.idxOf l[i]=i
 | [],_,i,h=>by simp at h
 | x :: r,nd,0,h=>List.idxOf_cons_self
 | x :: r,nd,i+1,h=>by
  obtain⟨h1,h2⟩:=List.nodup_cons.mp nd
  have hi:i < r.length:=by simp at h;omega
  have ne:x≠r[i]:=fun e=>h1 (by rw[e];exact List.getElem_mem hi)
  show (x :: r).idxOf r[i]=i+1
  rw[idxC ne,idxG h2 hi]
theorem jbu {w:Str}{ss:List Str} (h:ss.Nodup) (hw:w∈ss):trn ss (frt w ss)=ss.idxOf w:=by
 obtain⟨L,R,rfl⟩:=List.append_of_mem hw
 rw[j7y h]
 obtain⟨nL,nR',dis⟩:=List.nodup_append.mp h
 obtain⟨wR,nR⟩:=List.nodup_cons.mp nR'
 have wL:w∉L:=fun z=>dis w z w List.mem_cons_self rfl
 have LR:∀ t∈R,t∉L:=fun t ht z=>dis t z t (List.mem_cons_of_mem _ ht) rfl
 have iw:(w :: (L++R)).idxOf w=0:=List.idxOf_cons_self
 have iL:∀ t∈L,(w :: (L++R)).idxOf t=L.idxOf t+1:=fun t ht=>by
  rw[idxC (fun e=>wL (by rw[e];exact ht)),List.idxOf_append,if_pos ht]
 have iR:∀ t∈R,(w :: (L++R)).idxOf t=L.length+R.idxOf t+1:=fun t ht=>by
  rw[idxC (fun e=>wR (by rw[e];exact ht)),List.idxOf_append,if_neg (LR t ht)]
  omega
 have key:∀ i,i < (L++w :: R).length→(ovt (L++w :: R) (w :: (L++R)) i:Int)=if i < L.length then 1 else 0:=by
  intro i hi
  unfold ovt
  by_cases c:i < L.length
  ·rw[if_pos c]
   have g:(L++w :: R).getD i ⟨#[]⟩=L[i]:=by rw[List.getD_eq_getElem?_getD,List.getElem?_append_left c,List.getElem?_eq_getElem c];rfl
   rw[g,iL _ (List.getElem_mem c),idxG nL,List.drop_append_of_le_length (by omega),List.filter_append,List.filter_cons,if_pos (by rw[iw];simp)]
   have e1:(L.drop (i+1)).filter (fun t=>decide ((w :: (L++R)).idxOf t < i+1))=[]:=List.filter_eq_nil_iff.mpr fun t ht=>by
    obtain⟨j,hj,e⟩:=List.getElem_of_mem ht
    rw[List.getElem_drop] at e
    have hj':i+1+j < L.length:=by rw[List.length_drop] at hj;omega
    rw[← e,iL _ (List.getElem_mem _),idxG nL]
    simp
    omega
   have e2:R.filter (fun t=>decide ((w :: (L++R)).idxOf t < i+1))=[]:=List.filter_eq_nil_iff.mpr fun t ht=>by
    rw[iR t ht]
    simp
    omega
   rw[e1,e2]
   rfl
  ·rw[if_neg c]
   have hz:(L++w :: R).drop (i+1)=(w :: R).drop (i+1-L.length):=by
    rw[List.drop_append,List.drop_eq_nil_of_le (by omega),List.nil_append]
   obtain⟨k,hk⟩:∃ k,i=L.length+k:=⟨i-L.length,by omega⟩
   subst hk
   have g:(L++w :: R).getD (L.length+k) ⟨#[]⟩=(w :: R).getD k ⟨#[]⟩:=by rw[List.getD_eq_getElem?_getD,List.getD_eq_getElem?_getD,List.getElem?_append_right (by omega),show L.length+k-L.length=k by omega]
   rw[hz,g,show L.length+k+1-L.length=k+1 by omega]
   have e:((w :: R).drop (k+1)).filter (fun t=>decide ((w :: (L++R)).idxOf t < (w :: (L++R)).idxOf ((w :: R).getD k ⟨#[]⟩)))=[]:=List.filter_eq_nil_iff.mpr fun t ht=>by
    cases k with
    | zero =>
     rw[show (w :: R).getD 0 ⟨#[]⟩=w from rfl,iw]
     simp
    | succ k =>
     have hk:k < R.length:=by simp at hi;omega
     rw[show (w :: R).getD (k+1) ⟨#[]⟩=R[k] by rw[List.getD_eq_getElem?_getD,List.getElem?_cons_succ,List.getElem?_eq_getElem hk];rfl,iR _ (List.getElem_mem hk),idxG nR]
     rw[List.drop_succ_cons] at ht
     obtain⟨j,hj,e⟩:=List.getElem_of_mem ht
     rw[List.getElem_drop] at e
     have hj':k+1+j < R.length:=by rw[List.length_drop] at hj;omega
     rw[← e,iR _ (List.getElem_mem _),idxG nR]
     simp
     omega
   rw[e]
   rfl
 unfold trn
 rw[List.map_congr_left fun i hi=>key i (List.mem_range.mp hi),ones _ _ (by simp),List.idxOf_append,if_neg wL,List.idxOf_cons_self]
 simp
theorem j5t:∀ {l:List Str},sortedS l=true→l.Pairwise fun a b=>¬ b.cps.toList < a.cps.toList
 | [],_=>List.Pairwise.nil
 | x :: r,h=>by
  have key:∀ (p:Str) (l:List Str),risingS p l=true→(p :: l).Pairwise fun a b=>¬ b.cps.toList < a.cps.toList:=by
   intro p l
   induction l generalizing p with
   | nil=>intro _;simp
   | cons y r ih =>
    intro h
    have h':(!ltCps y.cps.toList p.cps.toList && risingS y r)=true:=h
    rw[Bool.and_eq_true] at h'
    have h2:=ih y h'.2
    have h1:¬ y.cps.toList < p.cps.toList:=by
     have:=h'.1
     rw[ltCps_eq] at this
     simpa using this
    refine List.pairwise_cons.mpr ⟨fun z hz=>?_,h2⟩
    rcases List.mem_cons.mp hz with rfl | hz
    ·exact h1
    ·have h3:=(List.pairwise_cons.mp h2).1 z hz
     exact fun q=>h1 (List.lt_of_le_of_lt (List.not_lt.mp h3) q)
  exact key x r h
theorem jf8 {a b:Str} (h:a.cps.toList=b.cps.toList):a=b:=by
 cases a;cases b
 congr 1
 exact Array.toList_inj.mp h
theorem j2b {a b:List Str} (p:a.Perm b) (ha:sortedS a=true) (hb:sortedS b=true):a=b :=
 List.Perm.eq_of_pairwise (fun x y _ _ h1 h2=>jf8 (List.le_antisymm (List.not_lt.mp h1) (List.not_lt.mp h2))) (j5t ha) (j5t hb) p
theorem j58 (x:Str) (ss:List Str):inV (.str x) (ss.map V.str)=decide (x∈ss):=by
 unfold inV
 rw[List.any_map,Bool.eq_iff_iff,List.any_eq_true,decide_eq_true_iff]
 constructor
 ·rintro⟨y,hy,e⟩
  have:y=x:=by simpa[eqV] using e
  exact this ▸ hy
 ·intro h
  exact⟨x,h,by simp[eqV]⟩
theorem j3e (ss:List Str):(ss.map V.str).all j69=true:=by rw[List.all_map,List.all_eq_true];intro x _;rfl
theorem j7z {ss:List Str}{i:Nat}{y:V} (h:(ss.map V.str)[i]?=some y):∃ x,ss[i]?=some x∧y=.str x:=by
 rw[List.getElem?_map] at h
 obtain⟨x,h1,h2⟩:=Option.map_eq_some_iff.mp h
 exact⟨x,h1,h2.symm⟩
theorem j6q {ss:List Str}{k:Int} (h0:0≤k) (h1:k < ss.length):atI (ss.map V.str) k=some (.str (ss.getD k.toNat ⟨#[]⟩)):=by
 refine j32 h0 ?_
 rw[List.getElem?_map,List.getD_eq_getElem?_getD,List.getElem?_eq_getElem (show k.toNat < ss.length by omega)]
 rfl
theorem j3f {H:Hp}{p:Addr}{ss:List Str} (h:H p=some (.tup (ss.map V.str))):Rep H (.tup (ss.map D.str)) (.ref p):=Rep.tupI h (by
 clear h
 induction ss with
 | nil=>exact .nil
 | cons x r ih=>exact .cons .strI ih)
theorem j26 {H:Hp}{p:Addr}{ss:List Str} (h:H p=some (.lst (ss.map V.str))):Rep H (.lst (ss.map D.str)) (.ref p):=Rep.lstI h (by
 clear h
 induction ss with
 | nil=>exact .nil
 | cons x r ih=>exact .cons .strI ih)
theorem depS (ss:List Str):D.depthL (ss.map D.str)=0:=by
 induction ss with
 | nil=>rfl
 | cons x r ih=>show max 0 (D.depthL (r.map D.str))=0;rw[ih];rfl
theorem jj1 (ss:List Str):Nat.ble (D.tup (ss.map D.str)).depth 5=true:=by show Nat.ble (D.depthL (ss.map D.str)+1) 5=true;rw[depS];rfl
theorem jcx {z:Str} (h:nmS z=true):PyData.strOk z=true:=by
 have h1:=j7x h
 unfold AscS at h1
 unfold PyData.strOk
 rw[Array.all_eq_true_iff_forall_mem] at h1 ⊢
 intro c hc
 have:=of_decide_eq_true (h1 c hc)
 exact decide_eq_true (by omega)
theorem jd7:∀ {ss:List Str},(∀ s∈ss,nmS s=true)→(D.lst (ss.map D.str)).eqOk=true
 | [],_=>rfl
 | x :: r,h=>by
  show (PyData.strOk x && D.eqOkL (r.map D.str))=true
  rw[jcx (h x List.mem_cons_self),Bool.true_and]
  exact jd7 (ss:=r) fun s hs=>h s (List.mem_cons_of_mem _ hs)
theorem j9y {ss:List Str} (h:∀ s∈ss,nmS s=true):eqD (.lst (ss.map D.str)) (.lst (ss.map D.str))=true:=SeqAt.eqv_refl _ (D.canLay _ (jd7 h))
mutual
def plD:D→Bool
 | .int _=>true
 | .str _=>true
 | .tup l=>plDL l
 | .lst l=>plDL l
 | _=>false
def plDL:List D→Bool
 | []=>true
 | d :: r=>plD d && plDL r
end
theorem jbv:∀ {l:List D}{i:Nat}{d:D},plDL l=true→l[i]?=some d→plD d=true
 | [],_,_,_,e=>by simp at e
 | x :: r,0,d,h,e=>by simp at e;subst e;unfold plDL at h;exact (Bool.and_eq_true_iff.mp h).1
 | x :: r,i+1,d,h,e=>by unfold plDL at h;exact jbv (Bool.and_eq_true_iff.mp h).2 (by simpa using e)
theorem plI (ns:List Int):plD (.tup (ns.map D.int))=true:=by
 show plDL (ns.map D.int)=true
 induction ns with
 | nil=>rfl
 | cons n r ih=>show (plD (.int n) && plDL (r.map D.int))=true;rw[ih];rfl
theorem plS (ss:List Str):plD (.tup (ss.map D.str))=true:=by
 show plDL (ss.map D.str)=true
 induction ss with
 | nil=>rfl
 | cons n r ih=>show (plD (.str n) && plDL (r.map D.str))=true;rw[ih];rfl
theorem depI (ns:List Int):Nat.ble (D.tup (ns.map D.int)).depth 5=true:=by show Nat.ble (D.depthL (ns.map D.int)+1) 5=true;rw[j24];rfl
namespace Ns
def sfl (wo st:Addr) (z:Int):List (Str × V):=[("world",.ref wo),("standing",.ref st),("spent",.int z)]
structure ShelfAt (a:Adr) (H:Hp) (r:Addr) (ss ts:List Str) (z:Int):Prop where
 ex:∃ dx wo dw st tp,H r=some (.ins a.c_Front dx (sfl wo st z))∧H wo=some (.ins a.c_Shelf dw [("things",.ref tp)])∧H st=some (.tup (ss.map V.str))∧H tp=some (.tup (ts.map V.str))
theorem ShelfAt.ext {a:Adr}{H H':Hp}{r:Addr}{ss ts:List Str}{z:Int} (e:Ext H H') (k:ShelfAt a H r ss ts z):ShelfAt a H' r ss ts z:=by
 obtain⟨dx,wo,dw,st,tp,h1,h2,h3,h4⟩:=k.ex
 exact⟨dx,wo,dw,st,tp,e _ _ h1,e _ _ h2,e _ _ h3,e _ _ h4⟩
end Ns
namespace Nk
def beh (w:Str) (row:List Str):List Str:=if w∈row then row.filter (fun t=>!decide (t=w))++[w] else row.drop 1++[w]
theorem j6r {w:Str}{row:List Str} (h:row.Nodup) (hw:w∈row):(beh w row).Perm row:=by
 unfold beh
 rw[if_pos hw]
 exact (List.perm_append_singleton _ _).trans (j57 h hw)
theorem beh_names {w:Str}{row:List Str} (h:Names row) (hw:nmS w=true):Names (beh w row)∧(beh w row).length=row.length:=by
 by_cases c:w∈row
 ·exact⟨h.perm (j6r h.nd c),(j6r h.nd c).length_eq⟩
 ·match row,h,c with
  | [],h,_=>exact absurd h.lo (by decide)
  | x :: r,h,c =>
   have e:beh w (x :: r)=r++[w]:=by
    unfold beh
    rw[if_neg c]
    rfl
   have l:(r++[w]).length=(x :: r).length:=by simp
   rw[e]
   refine⟨⟨fun s hs=>?_,?_,by rw[l];exact h.lo,by rw[l];exact h.hi⟩,l⟩
   ·rcases List.mem_append.mp hs with hs | hs
    ·exact h.nm s (List.mem_cons_of_mem _ hs)
    ·rw[List.mem_singleton.mp hs];exact hw
   ·refine List.nodup_append.mpr ⟨(List.nodup_cons.mp h.nd).2,by simp,fun y hy z hz e=>?_⟩
    rw[List.mem_singleton.mp hz] at e
    exact c (e ▸ List.mem_cons_of_mem _ hy)
theorem beh_mem (w:Str) (row:List Str):w∈beh w row:=by
 unfold beh
 split <;> simp
def cst (w:Str) (row:List Str):Int:=if w∈row then 0 else 1
theorem beh_cost {w:Str}{row ss:List Str} (h:row.Nodup) (p:ss.Perm (beh w row)):((ss.filter fun t=>!decide (t∈row)).length:Int)=cst w row:=by
 rw[(p.filter _).length_eq]
 unfold cst
 by_cases c:w∈row
 ·rw[if_pos c]
  have:(beh w row).filter (fun t=>!decide (t∈row))=[]:=List.filter_eq_nil_iff.mpr fun t ht=>by
   have:=(j6r h c).mem_iff.mp ht
   simp[this]
  rw[this]
  rfl
 ·rw[if_neg c]
  unfold beh
  rw[if_neg c,List.filter_append]
  have:(row.drop 1).filter (fun t=>!decide (t∈row))=[]:=List.filter_eq_nil_iff.mpr fun t ht=>by
   have:=List.mem_of_mem_drop ht
   simp[this]
  rw[this,List.filter_cons,if_pos (by simp[c])]
  rfl
theorem jcy {ss:List Str}{i:Nat} (h:i≤ss.length):cutV (ss.map V.str) (some (i:Int)) none=(ss.drop i).map V.str:=by
 unfold cutV
 rw[HT.sIx_nat,HT.sIx_none,List.length_map,Nat.min_eq_left h,← List.map_drop,List.take_of_length_le (by rw[List.length_map,List.length_drop];exact Nat.le_refl _)]
end Nk
namespace Nk
def kfl (wo st:Addr) (z:Int) (rw:Addr):List (Str × V):=[("world",.ref wo),("standing",.ref st),("spent",.int z),("row",.ref rw)]
structure KeepR (a:Adr) (H:Hp) (r:Addr) (row:List Str) (z:Int) (dx wo dw st q:Addr) (ss:List Str):Prop where
 hr:H r=some (.ins a.c_Keeper dx (kfl wo st z q))
 hw:H wo=some (.ins a.c_Store dw [("many",.int (row.length:Nat))])
 hs:H st=some (.tup (ss.map V.str))
 hq:H q=some (.lst (row.map V.str))
 pm:ss.Perm row
 so:sortedS ss=true
structure KeepAt (a:Adr) (H:Hp) (r:Addr) (row:List Str) (z:Int):Prop where
 ex:∃ dx wo dw st q ss,KeepR a H r row z dx wo dw st q ss
theorem KeepR.ext {a:Adr}{H H':Hp}{r:Addr}{row:List Str}{z:Int}{dx wo dw st q:Addr}{ss:List Str} (e:Ext H H') (k:KeepR a H r row z dx wo dw st q ss):KeepR a H' r row z dx wo dw st q ss:=⟨e _ _ k.hr,e _ _ k.hw,e _ _ k.hs,e _ _ k.hq,k.pm,k.so⟩
theorem KeepAt.ext {a:Adr}{H H':Hp}{r:Addr}{row:List Str}{z:Int} (e:Ext H H') (k:KeepAt a H r row z):KeepAt a H' r row z:=by
 obtain⟨dx,wo,dw,st,q,ss,k⟩:=k.ex
 exact⟨dx,wo,dw,st,q,ss,k.ext e⟩
end Nk
namespace Nw
def wfl (wo q:Addr) (h z:Int):List (Str × V):=[("world",.ref wo),("standing",.int h),("spent",.int z),("reckoned",.ref q)]
structure WaysAt (a:Adr) (H:Hp) (r:Addr) (ns:List Int) (h t z:Int):Prop where
 ex:∃ dx wo dw q,H r=some (.ins a.c_Changer dx (wfl wo q h z))∧H wo=some (.ins a.c_Ways dw [("many",.int ns.length),("toll",.int t)])∧H q=some (.lst (ns.map V.int))
theorem WaysAt.ext {a:Adr}{H H':Hp}{r:Addr}{ns:List Int}{h t z:Int} (e:Ext H H') (k:WaysAt a H r ns h t z):WaysAt a H' r ns h t z:=by
 obtain⟨dx,wo,dw,q,h1,h2,h3⟩:=k.ex
 exact⟨dx,wo,dw,q,e _ _ h1,e _ _ h2,e _ _ h3⟩
def frw (ns cs:List Int):List Int:=List.zipWith (·+·) ns cs
def goW (ns cs:List Int) (t h:Int):Int:=if (frw ns cs).getD h.toNat 0 > mn (frw ns cs)+t then (((frw ns cs).idxOf (mn (frw ns cs)):Nat):Int) else h
def upW (ns cs:List Int) (t:Int):List Int:=(frw ns cs).map fun x=>min x (mn (frw ns cs)+t)
def prc (cs:List Int) (b f t:Int):Int:=if f=b then cs.getD f.toNat 0 else cs.getD f.toNat 0+t
def fstW (n:Nat) (t h:Int):List Int:=(List.range n).map fun (i:Nat)=>if (i:Int)=h then (0:Int) else t
structure WOk (ns:List Int) (h t:Int):Prop where
 lo:1≤ns.length
 hi:ns.length≤8
 h0:0≤h
 h1:h < ns.length
 t0:0≤t
 t1:t≤1000000000000000000
 near:∀ x∈ns,x≤mn ns+t
structure ChOk (ns cs:List Int):Prop where
 len:cs.length=ns.length
 am:∀ c∈cs,0≤c∧c≤1000000000000000000
theorem j5u {ns cs:List Int} (h:cs.length=ns.length):(frw ns cs).length=ns.length:=by
 unfold frw;rw[List.length_zipWith];omega
theorem jb5 {ns cs:List Int} (h:cs.length=ns.length) (lo:1≤ns.length):frw ns cs≠[]:=by
 intro z
 have:=j5u h
 rw[z] at this
 simp at this
 omega
theorem upW_len {ns cs:List Int}{t:Int} (h:cs.length=ns.length):(upW ns cs t).length=ns.length:=by
 unfold upW;rw[List.length_map,j5u h]
theorem mn_up {ns cs:List Int}{t:Int} (h:cs.length=ns.length) (lo:1≤ns.length) (t0:0≤t):mn (upW ns cs t)=mn (frw ns cs):=by
 have hf:=jcl (jb5 h lo)
 have hu:upW ns cs t≠[]:=by intro z;have:=upW_len (t:=t) h;rw[z] at this;simp at this;omega
 refine (jcl hu).uniq ⟨?_,fun x hx=>?_⟩
 ·unfold upW
  refine List.mem_map.mpr ⟨_,hf.1,?_⟩
  exact Int.min_eq_left (by omega)
 ·unfold upW at hx
  obtain⟨y,hy,rfl⟩:=List.mem_map.mp hx
  have:=hf.2 y hy
  omega
theorem goW_in {ns cs:List Int}{t h:Int} (k:WOk ns h t) (c:ChOk ns cs):0≤goW ns cs t h∧goW ns cs t h < ns.length:=by
 unfold goW
 have h0:=k.h0
 have h1:=k.h1
 split
 ·have:=List.idxOf_lt_length_iff.mpr (jcl (jb5 c.len k.lo)).1
  rw[j5u c.len] at this
  omega
 ·omega
theorem WOk.go {ns cs:List Int}{t h:Int} (k:WOk ns h t) (c:ChOk ns cs):WOk (upW ns cs t) (goW ns cs t h) t:=by
 have l:=upW_len (t:=t) c.len
 have g:=goW_in k c
 refine⟨by have:=k.lo;omega,by have:=k.hi;omega,g.1,by omega,k.t0,k.t1,fun x hx=>?_⟩
 rw[mn_up c.len k.lo k.t0]
 unfold upW at hx
 obtain⟨y,_,rfl⟩:=List.mem_map.mp hx
 omega
theorem fst_len {n:Nat}{t h:Int}:(fstW n t h).length=n:=by unfold fstW;simp
theorem fst_ok {n:Nat}{t h:Int} (n1:1≤n) (n8:n≤8) (h0:0≤h) (h1:h < n) (t0:0≤t) (t1:t≤1000000000000000000):WOk (fstW n t h) h t:=by
 have l:=fst_len (n:=n) (t:=t) (h:=h)
 have hne:fstW n t h≠[]:=by intro z;rw[z] at l;simp at l;omega
 have m0:mn (fstW n t h)=0:=by
  refine (jcl hne).uniq ⟨?_,fun x hx=>?_⟩
  ·unfold fstW
   refine List.mem_map.mpr ⟨h.toNat,List.mem_range.mpr (by omega),?_⟩
   rw[if_pos (by omega)]
  ·unfold fstW at hx
   obtain⟨y,_,rfl⟩:=List.mem_map.mp hx
   split <;> omega
 refine⟨by omega,by omega,h0,by omega,t0,t1,fun x hx=>?_⟩
 rw[m0]
 unfold fstW at hx
 obtain⟨y,_,rfl⟩:=List.mem_map.mp hx
 split <;> omega
end Nw
inductive W83
 | i (z:Int)
 | s (x:Str)
 | l (cs:List Int)
def W83.at_ (H:Hp):W83→V→Prop
 | .i z,v=>v=.int z
 | .s x,v=>v=.str x
 | .l cs,v=>∃ p,v=.ref p∧H p=some (.tup (cs.map V.int))
theorem W83.mono {H H':Hp} (e:∀ p cs,H p=some (.tup cs)→H' p=some (.tup cs)) {w:W83}{v:V} (h:w.at_ H v):w.at_ H' v:=by
 cases w with
 | l cs=>obtain⟨p,h1,h2⟩:=h;exact⟨p,h1,e _ _ h2⟩
 | _=>exact h
inductive RS
 | line (m:Nat) (ns:List Int) (z:Int)
 | shelf (ts ss:List Str) (z:Int)
 | hire (W st z:Int)
 | ways (n:Nat) (t:Int) (ns:List Int) (h z:Int)
 | store (m:Nat) (row:List Str) (z:Int)
 | bags (R:Int) (ps:List Int) (z:Int)
def RS.at_ (a:Adr) (H:Hp) (r:Addr):RS→Prop
 | .line _ ns z=>Nl.LineAt a a.c_Both H r ns z
 | .shelf ts ss z=>Ns.ShelfAt a H r ss ts z
 | .hire W st z=>Nh.BuyAt a H r W st z
 | .ways _ t ns h z=>Nw.WaysAt a H r ns h t z
 | .store _ row z=>Nk.KeepAt a H r row z
 | .bags R ps z=>∃ ss,Nb.BagAt a H r R ps ss z∧ss.Perm ps∧ss.Pairwise (·≤·)
theorem RS.ext {a:Adr}{H H':Hp}{r:Addr} (e:Ext H H') {s:RS} (h:s.at_ a H r):s.at_ a H' r:=by
 cases s with
 | line m ns z=>exact Nl.LineAt.ext e h
 | shelf ts ss z=>exact Ns.ShelfAt.ext e h
 | hire W st z=>exact Nh.BuyAt.ext e h
 | ways n t ns h' z=>exact Nw.WaysAt.ext e h
 | store m row z=>exact Nk.KeepAt.ext e h
 | bags R ps z=>obtain⟨ss,h1,h2⟩:=h;exact⟨ss,h1.ext e,h2⟩
def RS.ok (k:Nat):RS→Prop
 | .line m ns _=>Nl.Good ns∧ns.length=m
 | .shelf ts ss _=>Names ss∧ts.Perm ss
 | .hire W st _=>1≤W∧W≤1000000000000000000∧(st=0∨st=1)
 | .ways n t ns h _=>Nw.WOk ns h t∧ns.length=n
 | .store m row _=>Names row∧row.length=m
 | .bags R ps _=>1≤R∧R≤1000000000000000000∧(∀ x∈ps,1≤x∧x≤R)∧ps.length≤k
def RS.wo (a:Adr) (H:Hp) (w:Addr):RS→Prop
 | .line m _ _=>∃ dw,H w=some (.ins a.c_Line dw [("many",.int (m:Nat))])
 | .shelf ts _ _=>∃ dw tp,H w=some (.ins a.c_Shelf dw [("things",.ref tp)])∧H tp=some (.tup (ts.map V.str))
 | .hire W _ _=>∃ dw,H w=some (.ins a.c_Hire dw [("whole",.int W)])
 | .ways n t _ _ _=>∃ dw,H w=some (.ins a.c_Ways dw [("many",.int (n:Nat)),("toll",.int t)])
 | .store m _ _=>∃ dw,H w=some (.ins a.c_Store dw [("many",.int (m:Nat))])
 | .bags R _ _=>∃ dw,H w=some (.ins a.c_Bags dw [("room",.int R)])
theorem RS.woM {a:Adr}{H H':Hp}{w:Addr} (e:∀ p o,(p=w∨∃ xs,o=.tup xs)→H p=some o→H' p=some o) {s:RS} (h:s.wo a H w):s.wo a H' w:=by
 cases s with
 | shelf ts ss z=>obtain⟨dw,tp,h1,h2⟩:=h;exact⟨dw,tp,e _ _ (.inl rfl) h1,e _ _ (.inr ⟨_,rfl⟩) h2⟩
 | _=>obtain⟨dw,h1⟩:=h;exact⟨dw,e _ _ (.inl rfl) h1⟩
theorem RS.woE {a:Adr}{H H':Hp}{w:Addr} (e:Ext H H') {s:RS} (h:s.wo a H w):s.wo a H' w:=RS.woM (fun p o _ h=>e _ _ h) h
def RS.st (H:Hp):RS→V→Prop
 | .line _ ns _,v=>∃ p,v=.ref p∧H p=some (.tup (ns.map V.int))
 | .shelf _ ss _,v=>∃ p,v=.ref p∧H p=some (.tup (ss.map V.str))
 | .hire _ st _,v=>v=.int st
 | .ways _ _ _ h _,v=>v=.int h
 | .store _ row _,v=>∃ (p:Addr) (ss:List Str),v=.ref p∧H p=some (.tup (ss.map V.str))∧ss.Perm row∧sortedS ss=true
 | .bags _ ps _,v=>∃ (p:Addr) (ss:List Int),v=.ref p∧H p=some (.tup (ss.map V.int))∧ss.Perm ps∧ss.Pairwise (·≤·)
theorem RS.stM {H H':Hp} (e:∀ p xs,H p=some (.tup xs)→H' p=some (.tup xs)) {s:RS}{v:V} (h:s.st H v):s.st H' v:=by
 cases s with
 | line m ns z=>obtain⟨p,h1,h2⟩:=h;exact⟨p,h1,e _ _ h2⟩
 | shelf ts ss z=>obtain⟨p,h1,h2⟩:=h;exact⟨p,h1,e _ _ h2⟩
 | store m row z=>obtain⟨p,ss,h1,h2,h3⟩:=h;exact⟨p,ss,h1,e _ _ h2,h3⟩
 | bags R ps z=>obtain⟨p,ss,h1,h2,h3⟩:=h;exact⟨p,ss,h1,e _ _ h2,h3⟩
 | _=>exact h
theorem RS.same {H:Hp}{s:RS}{v v':V} (h:s.st H v) (h':s.st H v'):∃ d,Rep H d v∧Rep H d v'∧plD d=true∧Nat.ble d.depth 5=true:=by
 cases s with
 | line m ns z=>obtain⟨p,rfl,h2⟩:=h;obtain⟨q,rfl,k2⟩:=h';exact⟨_,Rep.tupInts h2,Rep.tupInts k2,plI _,depI _⟩
 | shelf ts ss z=>obtain⟨p,rfl,h2⟩:=h;obtain⟨q,rfl,k2⟩:=h';exact⟨_,j3f h2,j3f k2,plS _,jj1 _⟩
 | hire W st z=>cases (show v=.int st from h);cases (show v'=.int st from h');exact⟨.int st,.intI,.intI,rfl,rfl⟩
 | ways n t ns h'' z=>cases (show v=.int h'' from h);cases (show v'=.int h'' from h');exact⟨.int h'',.intI,.intI,rfl,rfl⟩
 | store m row z =>
  obtain⟨p,ss,rfl,h2,h3,h4⟩:=h
  obtain⟨q,qs,rfl,k2,k3,k4⟩:=h'
  obtain rfl:=j2b (h3.trans k3.symm) h4 k4
  exact⟨_,j3f h2,j3f k2,plS _,jj1 _⟩
 | bags R ps z =>
  obtain⟨p,ss,rfl,h2,h3,h4⟩:=h
  obtain⟨q,qs,rfl,k2,k3,k4⟩:=h'
  obtain rfl:=Nb.sorted_eq (h3.trans k3.symm) h4 k4
  exact⟨_,Rep.tupInts h2,Rep.tupInts k2,plI _,depI _⟩
def RS.z:RS→Int
 | .line _ _ z=>z | .shelf _ _ z=>z | .hire _ _ z=>z | .ways _ _ _ _ z=>z | .store _ _ z=>z | .bags _ _ z=>z
def RS.okW:RS→W83→Prop
 | .line _ _ _,w=>∃ z,w=.i z∧-1000000000000000000≤z∧z≤1000000000000000000
 | .shelf ts _ _,w=>∃ x,w=.s x∧x∈ts
 | .hire _ _ _,w=>∃ z,w=.i z∧0≤z∧z≤1000000000000000000
 | .ways n _ _ _ _,w=>∃ cs,w=.l cs∧cs.length=n∧∀ c∈cs,0≤c∧c≤1000000000000000000
 | .store _ _ _,w=>∃ x,w=.s x∧nmS x=true
 | .bags R _ _,w=>∃ z,w=.i z∧1≤z∧z≤R
def j8e (W st z h:Int):Int:=if st=1 then 1 else if W≤z+h then 1 else 0
def jcz (W st z h:Int):Int:=if st=1 then 0 else if W≤z+h then W else h
def RS.step:RS→W83→RS
 | .line m ns z,.i w=>.line m (Nl.goB ns w) (z+Nl.ways ns (Nl.goB ns w))
 | .shelf ts ss z,.s w=>.shelf ts (frt w ss) (z+((ss.idxOf w:Nat)+1))
 | .hire W st z,.i h=>.hire W (j8e W st z h) (z+jcz W st z h)
 | .ways n t ns h z,.l cs=>.ways n t (Nw.upW ns cs t) (Nw.goW ns cs t h) (z+Nw.prc cs h (Nw.goW ns cs t h) t)
 | .store m row z,.s w=>.store m (Nk.beh w row) (z+Nk.cst w row)
 | .bags R ps z,.i s=>.bags R (Nb.beh ps s R) (z+(((Nb.beh ps s R).length:Int)-ps.length))
 | s,_=>s
theorem RS.okS {k:Nat}{s:RS}{w:W83} (h:s.ok k) (hw:s.okW w):(s.step w).ok (k+1):=by
 cases s with
 | line m ns z=>obtain⟨x,rfl,w0,w1⟩:=hw;exact⟨h.1.go w0 w1,(Nl.goB_len h.1.srt h.1.lo).trans h.2⟩
 | shelf ts ss z =>
  obtain⟨x,rfl,hx⟩:=hw
  have pm:=j57 h.1.nd (h.2.mem_iff.mp hx)
  exact⟨h.1.perm pm,h.2.trans pm.symm⟩
 | hire W st z =>
  obtain⟨x,rfl,w0,w1⟩:=hw
  refine⟨h.1,h.2.1,?_⟩
  show j8e W st z x=0∨j8e W st z x=1
  unfold j8e
  split
  ·exact .inr rfl
  ·split
   ·exact .inr rfl
   ·exact .inl rfl
 | ways n t ns h' z=>obtain⟨cs,rfl,hl,hc⟩:=hw;exact⟨h.1.go ⟨hl.trans h.2.symm,hc⟩,(Nw.upW_len (hl.trans h.2.symm)).trans h.2⟩
 | store m row z=>obtain⟨x,rfl,hx⟩:=hw;have:=Nk.beh_names h.1 hx;exact⟨this.1,this.2.trans h.2⟩
 | bags R ps z =>
  obtain⟨x,rfl,w0,w1⟩:=hw
  obtain⟨r1,r2,hp,hl⟩:=h
  refine⟨r1,r2,fun y hy=>?_,by have:=Nb.beh_len ps x R;omega⟩
  unfold Nb.beh at hy
  split at hy
  ·rename_i c
   rcases List.mem_append.mp hy with z | z
   ·exact hp y (List.dropLast_subset _ z)
   ·rw[List.mem_singleton.mp z]
    have hm:ps.getLastD 0∈ps:=by rw[List.getLastD_eq_getLast?,List.getLast?_eq_some_getLast c.1];exact List.getLast_mem c.1
    have:=hp _ hm
    exact⟨by omega,c.2⟩
  ·rcases List.mem_append.mp hy with z | z
   ·exact hp y z
   ·rw[List.mem_singleton.mp z];exact⟨w0,w1⟩
theorem RS.step_w {a:Adr}{H:Hp}{o:Addr}{s:RS} (w:W83) (h:s.wo a H o):(s.step w).wo a H o:=by
 cases s <;> cases w <;> exact h
theorem RS.step_W {s:RS}{w:W83} (x:W83) (h:s.okW w):(s.step x).okW w:=by
 cases s <;> cases x <;> exact h
inductive G83
 | line (ns:List Int) | shelf (ss:List Str) | hire (W:Int) | ways (n:Nat) (t h:Int) | store (ss:List Str) | bags (R:Int)
def G83.word:G83→Str
 | .line _=>Str.ofString "line" | .shelf _=>Str.ofString "shelf" | .hire _=>Str.ofString "hire" | .ways _ _ _=>Str.ofString "ways" | .store _=>Str.ofString "store" | .bags _=>Str.ofString "bags"
def G83.tup:G83→List V
 | .line ns=>ns.map V.int | .shelf ss=>ss.map V.str | .hire W=>[.int W] | .ways n t h=>[.int (n:Nat),.int t,.int h] | .store ss=>ss.map V.str | .bags R=>[.int R]
def G83.rs:G83→RS
 | .line ns=>.line ns.length ns 0 | .shelf ss=>.shelf ss ss 0 | .hire W=>.hire W 0 0 | .ways n t h=>.ways n t (Nw.fstW n t h) h 0 | .store ss=>.store ss.length ss 0 | .bags R=>.bags R [] 0
def G83.ok:G83→Prop
 | .line ns=>Nl.Good ns | .shelf ss=>Names ss | .hire W=>1≤W∧W≤1000000000000000000
 | .ways n t h=>1≤n∧n≤8∧0≤h∧h < n∧0≤t∧t≤1000000000000000000 | .store ss=>Names ss | .bags R=>1≤R∧R≤1000000000000000000
theorem G83.rs_ok {g:G83} (h:g.ok):g.rs.ok 0:=by
 cases g with
 | line ns=>exact⟨h,rfl⟩
 | shelf ss=>exact⟨h,.refl _⟩
 | hire W=>exact⟨h.1,h.2,.inl rfl⟩
 | ways n t h'=>obtain⟨n1,n8,h0,h1,t0,t1⟩:=h;exact⟨Nw.fst_ok n1 n8 h0 h1 t0 t1,Nw.fst_len⟩
 | store ss=>exact⟨h,rfl⟩
 | bags R=>exact⟨h.1,h.2,(fun x hx=>by cases hx),Nat.le_refl _⟩
def G83.f1:G83→Int
 | .line ns=>(ns.length:Nat) | .shelf ss=>2 * (ss.length:Nat)-1 | .hire W=>2 * W-1 | .ways n _ _=>2 * (n:Nat)-1 | .store ss=>(ss.length:Nat) | .bags R=>2 * R
def G83.f2:G83→Int
 | .line _=>1 | .shelf ss=>(ss.length:Nat) | .hire W=>W | .ways _ _ _=>1 | .store _=>1 | .bags R=>R
def RS.f1:RS→Int
 | .line m _ _=>(m:Nat) | .shelf _ ss _=>2 * (ss.length:Nat)-1 | .hire W _ _=>2 * W-1 | .ways n _ _ _ _=>2 * (n:Nat)-1 | .store m _ _=>(m:Nat) | .bags R _ _=>2 * R
def RS.f2:RS→Int
 | .line _ _ _=>1 | .shelf _ ss _=>(ss.length:Nat) | .hire W _ _=>W | .ways _ _ _ _ _=>1 | .store _ _ _=>1 | .bags R _ _=>R
theorem G83.rs_f (g:G83):g.rs.f1=g.f1∧g.rs.f2=g.f2∧g.rs.z=0:=by cases g <;> exact⟨rfl,rfl,rfl⟩
def RS.word:RS→Str
 | .line _ _ _=>Str.ofString "line" | .shelf _ _ _=>Str.ofString "shelf" | .hire _ _ _=>Str.ofString "hire" | .ways _ _ _ _ _=>Str.ofString "ways" | .store _ _ _=>Str.ofString "store" | .bags _ _ _=>Str.ofString "bags"
theorem G83.rs_word (g:G83):g.rs.word=g.word:=by cases g <;> rfl
theorem RS.step_word (s:RS) (w:W83):(s.step w).word=s.word:=by cases s <;> cases w <;> rfl
def Big3 (H:Hp) (r:Addr):Prop:=∃ C dx fs,H r=some (.ins C dx fs)∧3≤fs.length
theorem RS.big {a:Adr}{H:Hp}{r:Addr}{s:RS} (h:s.at_ a H r):Big3 H r:=by
 cases s with
 | line m ns z=>obtain⟨dx,wo,dw,sp,h1,h2,h3⟩:=Nl.LineAt.ex h;exact⟨_,_,_,h1,by show 3≤3;decide⟩
 | shelf ts ss z=>obtain⟨dx,wo,dw,sp,tp,h1,h2,h3,h4⟩:=Ns.ShelfAt.ex h;exact⟨_,_,_,h1,by show 3≤3;decide⟩
 | hire W st z=>obtain⟨dx,wo,dw,h1,h2⟩:=Nh.BuyAt.ex h;exact⟨_,_,_,h1,by show 3≤3;decide⟩
 | ways n t ns h' z=>obtain⟨dx,wo,dw,q,h1,h2,h3⟩:=Nw.WaysAt.ex h;exact⟨_,_,_,h1,by show 3≤4;decide⟩
 | store m row z=>obtain⟨dx,wo,dw,sp,q,ss0,kk⟩:=Nk.KeepAt.ex h;exact⟨_,_,_,kk.hr,by show 3≤4;decide⟩
 | bags R ps z=>obtain⟨ss0,h,_⟩:=h;obtain⟨dx,wo,dw,sp,q,h1,h2,h3,h4⟩:=Nb.BagAt.ex h;exact⟨_,_,_,h1,by show 3≤4;decide⟩
theorem Big3.ne {H:Hp}{r p:Addr}{o:HO} (k:Big3 H r) (h:H p=some o) (c:∀ C dx fs,o=.ins C dx fs→fs.length≤2):p≠r:=fun z=>by
 obtain⟨C,dx,fs,k1,k2⟩:=k
 rw[z,k1] at h
 have:=c C dx fs (Option.some.inj h).symm
 omega
theorem Big3.ins {H H':Hp}{r p C dx:Addr}{fs:List (Str × V)} (k:Big3 H r) (b:But r H H') (h:H p=some (.ins C dx fs)) (l:fs.length≤2):H' p=some (.ins C dx fs):=b _ _ (k.ne h fun C' dx' fs' e=>by cases e;exact l) h
theorem Big3.tup {H H':Hp}{r p:Addr}{xs:List V} (k:Big3 H r) (b:But r H H') (h:H p=some (.tup xs)):H' p=some (.tup xs):=b _ _ (k.ne h fun C' dx' fs' e=>by cases e) h
theorem Big3.lst {H H':Hp}{r p:Addr}{xs:List V} (k:Big3 H r) (b:But r H H') (h:H p=some (.lst xs)):H' p=some (.lst xs):=b _ _ (k.ne h fun C' dx' fs' e=>by cases e) h
theorem RS.woB {a:Adr}{H H':Hp}{r w:Addr}{s:RS} (k:Big3 H r) (b:But r H H') (h:s.wo a H w):s.wo a H' w:=by
 cases s with
 | shelf ts ss z=>obtain⟨dw,tp,h1,h2⟩:=h;exact⟨dw,tp,k.ins b h1 (by show 1≤2;decide),k.tup b h2⟩
 | ways n t ns h' z=>obtain⟨dw,h1⟩:=h;exact⟨dw,k.ins b h1 (by show 2≤2;decide)⟩
 | line m ns z=>obtain⟨dw,h1⟩:=h;exact⟨dw,k.ins b h1 (by show 1≤2;decide)⟩
 | hire W st z=>obtain⟨dw,h1⟩:=h;exact⟨dw,k.ins b h1 (by show 1≤2;decide)⟩
 | store m row z=>obtain⟨dw,h1⟩:=h;exact⟨dw,k.ins b h1 (by show 1≤2;decide)⟩
 | bags R ps z=>obtain⟨dw,h1⟩:=h;exact⟨dw,k.ins b h1 (by show 1≤2;decide)⟩
theorem RS.butR {a:Adr}{H H':Hp}{r r2:Addr}{s:RS} (k:Big3 H r) (b:But r H H') (n:r2≠r) (h:s.at_ a H r2):s.at_ a H' r2:=by
 cases s with
 | line m ns z=>obtain⟨dx,wo,dw,sp,h1,h2,h3⟩:=Nl.LineAt.ex h;exact⟨dx,wo,dw,sp,b _ _ n h1,k.ins b h2 (by show 1≤2;decide),k.tup b h3⟩
 | shelf ts ss z=>obtain⟨dx,wo,dw,sp,tp,h1,h2,h3,h4⟩:=Ns.ShelfAt.ex h;exact⟨dx,wo,dw,sp,tp,b _ _ n h1,k.ins b h2 (by show 1≤2;decide),k.tup b h3,k.tup b h4⟩
 | hire W st z=>obtain⟨dx,wo,dw,h1,h2⟩:=Nh.BuyAt.ex h;exact⟨dx,wo,dw,b _ _ n h1,k.ins b h2 (by show 1≤2;decide)⟩
 | ways n' t ns h' z=>obtain⟨dx,wo,dw,q,h1,h2,h3⟩:=Nw.WaysAt.ex h;exact⟨dx,wo,dw,q,b _ _ n h1,k.ins b h2 (by show 2≤2;decide),k.lst b h3⟩
 | store m row z=>obtain⟨dx,wo,dw,sp,q,ss0,kk⟩:=Nk.KeepAt.ex h;exact⟨dx,wo,dw,sp,q,ss0,b _ _ n kk.hr,k.ins b kk.hw (by show 1≤2;decide),k.tup b kk.hs,k.lst b kk.hq,kk.pm,kk.so⟩
 | bags R ps z=>obtain⟨ss0,h,hh⟩:=h;obtain⟨dx,wo,dw,sp,q,h1,h2,h3,h4⟩:=Nb.BagAt.ex h;exact⟨ss0,⟨dx,wo,dw,sp,q,b _ _ n h1,k.ins b h2 (by show 1≤2;decide),k.tup b h3,k.lst b h4⟩,hh⟩
theorem jd0 {R s:Int}{ps os fs:List Int} (hs:1≤s) (h1:os.Perm ps) (h2:fs.Perm (Nb.beh ps s R)) (h3:fs.Pairwise (·≤·)):Nb.Goes R os s fs (((Nb.beh ps s R).length:Int)-ps.length):=by
 refine⟨h3,?_⟩
 unfold Nb.beh at h2 ⊢
 split at h2
 ·rename_i c
  rw[if_pos c]
  right
  have hl:0 < ps.length:=List.length_pos_iff.mpr c.1
  refine⟨by simp;omega,?_⟩
  have el:ps.dropLast++[ps.getLastD 0]=ps:=by
   rw[List.getLastD_eq_getLast?,List.getLast?_eq_some_getLast c.1]
   exact List.dropLast_concat_getLast c.1
  have hm:ps.getLastD 0∈os:=h1.mem_iff.mpr (by rw[List.getLastD_eq_getLast?,List.getLast?_eq_some_getLast c.1];exact List.getLast_mem c.1)
  obtain⟨k,hk,e⟩:=List.getElem_of_mem hm
  have ek:os.getD k 0=ps.getLastD 0:=by rw[List.getD_eq_getElem?_getD,List.getElem?_eq_getElem hk];exact e
  refine⟨k,hk,by rw[ek];exact c.2,?_⟩
  have p1:os.Perm (ps.getLastD 0 :: os.eraseIdx k):=by have:=Nb.own_perm os k hk;rwa [ek] at this
  have p2:ps.Perm (ps.getLastD 0 :: ps.dropLast):=by
   have:(ps.dropLast++[ps.getLastD 0]).Perm (ps.getLastD 0 :: ps.dropLast):=List.perm_append_singleton _ _
   rwa [el] at this
  have p3:(os.eraseIdx k).Perm ps.dropLast:=((p1.symm.trans h1).trans p2).cons_inv
  rw[ek]
  have p4:(ps.dropLast++[ps.getLastD 0+s]).Perm ((ps.getLastD 0+s) :: ps.dropLast):=List.perm_append_singleton _ _
  exact (h2.trans p4).trans ((p3.symm.cons _).trans (Nb.set_perm os k (ps.getLastD 0+s) hk).symm)
 ·rename_i c
  rw[if_neg c]
  left
  exact⟨by simp;omega,h2.trans (h1.symm.append_right _)⟩
def GAt (H:Hp) (g:G83) (wd:Str) (p:Addr):Prop:=wd=g.word∧H p=some (.tup g.tup)∧g.ok
theorem GAt.ext {H H':Hp} (e:Ext H H') {g:G83}{wd:Str}{p:Addr} (h:GAt H g wd p):GAt H' g wd p:=⟨h.1,e _ _ h.2.1,h.2.2⟩
theorem r_slQ {K:PySem.W.Frag}{H:Hp}{Q:VK}{p:Addr}{xs:List V}{lo hi:Option Int} (h:SqL K H p xs) (q:∀ l H',H l=none→H' l=some (.lst (cutV xs lo hi))→Ext H H'→Q (.ref l) H'):rSlU K (.ref p) lo hi H Q:=.inr ⟨p,xs,rfl,h,fun l nl=>q l _ nl j0k (j1c nl)⟩
def W83.d:W83→D
 | .i z=>.int z
 | .s x=>.str x
 | .l cs=>.tup (cs.map D.int)
def AllW (H:Hp):List W83→List V→Prop
 | [],[]=>True
 | w :: ws,v :: vs=>w.at_ H v∧AllW H ws vs
 | _,_=>False
theorem AllW.mono {H H':Hp} (e:∀ p cs,H p=some (.tup cs)→H' p=some (.tup cs)):∀ {ws:List W83}{vs:List V},AllW H ws vs→AllW H' ws vs
 | [],[],_=>trivial
 | _ :: _,_ :: _,⟨h1,h⟩=>⟨W83.mono e h1,AllW.mono e h⟩
 | [],_ :: _,h=>h.elim
 | _ :: _,[],h=>h.elim
theorem AllW.len {H:Hp}:∀ {ws:List W83}{vs:List V},AllW H ws vs→vs.length=ws.length
 | [],[],_=>rfl
 | _ :: _,_ :: _,⟨_,h⟩=>by simp[AllW.len h]
 | [],_ :: _,h=>h.elim
 | _ :: _,[],h=>h.elim
theorem AllW.get {H:Hp}:∀ {ws:List W83}{vs:List V}{i:Nat}{w:W83},AllW H ws vs→ws[i]?=some w→∃ v,vs[i]?=some v∧w.at_ H v
 | _ :: _,v :: _,0,w,⟨h1,_⟩,e=>by simp at e;subst e;exact⟨v,rfl,h1⟩
 | _ :: _,_ :: _,i+1,w,⟨_,h⟩,e=>by obtain⟨v,h1,h2⟩:=AllW.get h (by simpa using e);exact⟨v,by simpa using h1,h2⟩
 | [],_,_,_,_,e=>by simp at e
 | _ :: _,[],_,_,h,_=>h.elim
theorem AllW.snoc {H:Hp}{w:W83}{v:V} (k:w.at_ H v):∀ {ws:List W83}{vs:List V},AllW H ws vs→AllW H (ws++[w]) (vs++[v])
 | [],[],_=>⟨k,trivial⟩
 | _ :: _,_ :: _,⟨h1,h⟩=>⟨h1,AllW.snoc k h⟩
 | [],_ :: _,h=>h.elim
 | _ :: _,[],h=>h.elim
theorem AllW.rep {H:Hp}:∀ {ws:List W83}{vs:List V},AllW H ws vs→RepL H (ws.map W83.d) vs
 | [],[],_=>RepL.nil
 | w :: _,_ :: _,⟨h1,h⟩=>by
  refine RepL.cons ?_ (AllW.rep h)
  cases w with
  | i z=>exact h1
  | s x=>exact h1
  | l cs=>obtain⟨q,rfl,hq⟩:=h1;exact Rep.tupInts hq
 | [],_ :: _,h=>h.elim
 | _ :: _,[],h=>h.elim
theorem okW_d {g:G83}{w:W83} (h:g.ok) (hw:g.rs.okW w):w.d.eqOk=true:=by
 cases g with
 | line ns=>obtain⟨x,rfl,_⟩:=hw;rfl
 | shelf ss=>obtain⟨x,rfl,hx⟩:=hw;exact jcx (h.nm x hx)
 | hire W=>obtain⟨x,rfl,_⟩:=hw;rfl
 | ways n t h'=>obtain⟨cs,rfl,_⟩:=hw;exact j2k cs
 | store ss=>obtain⟨x,rfl,hx⟩:=hw;exact jcx hx
 | bags R=>obtain⟨x,rfl,_⟩:=hw;rfl
theorem jf9 {g:G83} (h:g.ok):∀ {ws:List W83},(∀ w∈ws,g.rs.okW w)→D.eqOkL (ws.map W83.d)=true∧D.depthL (ws.map W83.d)≤1
 | [],_=>⟨rfl,by decide⟩
 | w :: ws,hw=>by
  obtain⟨i1,i2⟩:=jf9 h (ws:=ws) fun x hx=>hw x (List.mem_cons_of_mem _ hx)
  refine⟨?_,?_⟩
  ·show (w.d.eqOk && D.eqOkL (ws.map W83.d))=true
   rw[okW_d h (hw w List.mem_cons_self),i1]
   rfl
  ·show max w.d.depth (D.depthL (ws.map W83.d))≤1
   have:w.d.depth≤1:=by
    cases w with
    | i z=>show 0≤1;decide
    | s x=>show 0≤1;decide
    | l cs=>show D.depthL (cs.map D.int)+1≤1;rw[j24];decide
   omega
theorem jd1 (ws:List W83):eqD (.lst (ws.map W83.d)) (.lst [])=decide (ws=[]):=by
 cases ws with
 | nil=>simp[eqD,D.py,D.pyL,PyData.eqv,PyData.eqvAll]
 | cons t r=>simp[eqD,D.py,D.pyL,PyData.eqv,PyData.eqvAll]
def j6s:Sp:=fun vs H Q _=>∃ x k,vs=[x]∧HasK H x k∧Q (.bl (k == .int)) H
theorem j3q (T:Txt K mg a):FnOk P w K mg base (CXU P w) 1 a.f_z78 a.d_z78 ["_law_found"] (j6s):=by
 refine T.F_z78.okU sc_z78 (fun vs H Q E h=>?_) (fun cdv A outer s H vs Q E hr h=>?_)
 ·obtain⟨x,k,rfl,hk,hq⟩:=h
  rfl
 ·obtain⟨x,k,rfl,hk,hq⟩:=h
  refine⟨_,(j03 (j0a (j1t (j07 j28 (by rfl) T.n_isinstance PyProof.Rows.boot_isinstance (j00 (pv 0) (j00 (j1b (v:=V.ty "int") (by rfl) T.n_int PyProof.Rows.boot_int rfl) j01))) (j1y (jdb (j07 j28 (by rfl) T.n_isinstance PyProof.Rows.boot_isinstance (j00 (pv 0) (j00 (j1b (v:=V.ty "bool") (by rfl) T.n_bool PyProof.Rows.boot_bool rfl) j01)))))))),?_⟩
  walk_at "v"
  refine r_isI hk ?_
  cases k <;> (walk_at "v") <;> first | exact hq | (refine r_isB hk ?_;(walk_at "v");exact hq)
def j1r (n:Nat):Sp:=fun vs H Q _=>∃ x y d,vs=[x,y]∧Rep H d x∧Rep H d y∧plD d=true∧d.depth≤n∧∀ H',Ext H H'→Q (.bl true) H'
def j1q (n:Nat):Sp:=fun vs H Q _=>∃ p q xs ys ds,vs=[.ref p,.ref q]∧H p=some (.lst xs)∧H q=some (.lst ys)∧RepL H ds xs∧RepL H ds ys∧plDL ds=true∧D.depthL ds≤n∧∀ H',Ext H H'→Q (.bl true) H'
theorem j8f {n k:Nat} (T:Txt K mg a) (G:FnOk P w K mg base (CXU P w) k a.f_z84 a.d_z84 ["_law_found","_law_due"] (j1r n)) :
  FnOk P w K mg base (CXU P w) (k+1) a.f_z37 a.d_z37 ["_law_found","_law_due"] (j1q n):=by
 refine T.F_z37.okU jct (fun vs H Q E h=>?_) (fun cdv A outer s H vs Q E hr h=>?_)
 ·obtain⟨p,q,xs,ys,ds,rfl,_⟩:=h
  rfl
 ·obtain⟨p,q,xs,ys,ds,rfl,hp,hq',hd,he,hf,hn,hq⟩:=h
  refine⟨_,(j02 (jab PassesOwn.never rfl (j9f rfl T.n_zip (j00 (pv 0) (j00 (pv 1) j01))) (ja7 rfl (j1z (j0w (i:=2) jct.nd rfl (by first | exact Or.inl rfl | exact Or.inr rfl)) (j1z (j0w (i:=3) jct.nd rfl (by first | exact Or.inl rfl | exact Or.inr rfl)) j79))) (j03 (j0u (j0s (ptT (j0f (G) hr (by rfl) T.m_z84 T.F_z84.kp T.b_z84 .nil j0d (j00 (pv 2) (j00 (pv 3) j01))) (fun _=>rfl))) (j03 (j0a j30)) j0c)))
   (j03 (j0a j30))),?_⟩
  have l1:=hd.length
  have l2:=he.length
  walk_at "v"
  refine⟨p,q,xs,ys,false,false,rfl,SqL.of hp,SqL.of hq',jch (fun i σ H2=>(∃ u v,σ=[some (.ref p),some (.ref q),u,v])∧Ext H H2) (show xs.length=ys.length by omega) ⟨⟨none,none,rfl⟩,Ext.rfl'⟩ (fun i σ H2 _ ⟨_,e⟩=>⟨SqL.of (e _ _ hp),SqL.of (e _ _ hq')⟩) ?_ ?_⟩
  ·rintro i x y σ H2 r hx hy ⟨⟨u,v,rfl⟩,e⟩ hr0
   obtain⟨d,d1,d2⟩:=hd.get hx
   obtain⟨f,f1,f2⟩:=he.get hy
   rw[d1] at f1
   cases f1
   refine je1 j0k rfl ?_
   walk_at "v"
   have e2:Ext H (upd H2 r (.tup [x,y])):=e.tr (j1c hr0)
   refine⟨x,y,d,rfl,d2.mono e2,f2.mono e2,jbv hf d1,j7j hn d1,fun H3 e3=>?_⟩
   walk_at "v"
   exact⟨⟨_,_,rfl⟩,e2.tr e3⟩
  ·rintro σ H2 ⟨⟨u,v,rfl⟩,e⟩
   walk_at "v"
   exact hq H2 e
theorem jbw {n k:Nat}{spA:Sp} (T:Txt K mg a) (hA:∀ vs H Q E,(∃ m,n=m+1∧j1q m vs H Q E)→spA vs H Q E) (GA:FnOk P w K mg base (CXU P w) (k+1) a.f_z37 a.d_z37 ["_law_found","_law_due"] spA) :
  FnOk P w K mg base (CXU P w) (k+2) a.f_z84 a.d_z84 ["_law_found","_law_due"] (j1r n):=by
 refine T.F_z84.okU sc_z84 (fun vs H Q E h=>?_) (fun cdv A outer s H vs Q E hr h=>?_)
 ·obtain⟨x,y,d,rfl,_⟩:=h
  rfl
 ·obtain⟨x,y,d,rfl,h1,h2,hf,hn,hq⟩:=h
  refine⟨_,(j02 (j0u (ptT (j07 j28 (by rfl) T.n_isinstance PyProof.Rows.boot_isinstance (j00 (pv 1) (j00 (j1b (v:=V.ty "tuple") (by rfl) T.n_tuple PyProof.Rows.boot_tuple rfl) j01))) (fun _=>rfl)) (j03 (j0a (j1t (j07 j28 (by rfl) T.n_isinstance PyProof.Rows.boot_isinstance (j00 (pv 0) (j00 (j1b (v:=V.ty "tuple") (by rfl) T.n_tuple PyProof.Rows.boot_tuple rfl) j01))) (j1t (j1n (oEq hr) (j07 j1w (by rfl) T.n_len PySem.boot_len (j00 (pv 0) j01)) (j07 j1w (by rfl) T.n_len PySem.boot_len (j00 (pv 1) j01)) (j0m _)) (j1y (j0f (GA) (hr.mono (by omega)) (by rfl) T.m_z37 T.F_z37.kp T.b_z37 .nil j0d (j00 (j0r ja4 (by rfl) T.n_list PyProof.Rows.boot_list (j00 (pv 0) j01)) (j00 (j0r ja4 (by rfl) T.n_list PyProof.Rows.boot_list (j00 (pv 1) j01)) j01)))))))) j0c)
   (j02 (j0u (ptT (j07 j28 (by rfl) T.n_isinstance PyProof.Rows.boot_isinstance (j00 (pv 1) (j00 (j1b (v:=V.ty "list") (by rfl) T.n_list PyProof.Rows.boot_list rfl) j01))) (fun _=>rfl)) (j03 (j0a (j1t (j07 j28 (by rfl) T.n_isinstance PyProof.Rows.boot_isinstance (j00 (pv 0) (j00 (j1b (v:=V.ty "list") (by rfl) T.n_list PyProof.Rows.boot_list rfl) j01))) (j1t (j1n (oEq hr) (j07 j1w (by rfl) T.n_len PySem.boot_len (j00 (pv 0) j01)) (j07 j1w (by rfl) T.n_len PySem.boot_len (j00 (pv 1) j01)) (j0m _)) (j1y (j0f (GA) (hr.mono (by omega)) (by rfl) T.m_z37 T.F_z37.kp T.b_z37 .nil j0d (j00 (pv 0) (j00 (pv 1) j01)))))))) j0c)
   (j02 (j0u (ptT (j07 j28 (by rfl) T.n_isinstance PyProof.Rows.boot_isinstance (j00 (pv 1) (j00 (j1b (v:=V.ty "str") (by rfl) T.n_str PyProof.Rows.boot_str rfl) j01))) (fun _=>rfl)) (j03 (j0a (j1t (j07 j28 (by rfl) T.n_isinstance PyProof.Rows.boot_isinstance (j00 (pv 0) (j00 (j1b (v:=V.ty "str") (by rfl) T.n_str PyProof.Rows.boot_str rfl) j01))) (j1y (j1n (oEq hr) (pv 0) (pv 1) (j0m _)))))) j0c)
   (j03 (j0a (j1t (j0f (j3q T) (hr.mono (by omega)) (by rfl) T.m_z78 T.F_z78.kp T.b_z78 .nil j0d (j00 (pv 0) j01)) (j1y (j1n (oEq hr) (pv 0) (pv 1) (j0m _))))))))),?_⟩
  have k1:=h1.kd
  have k2:=h2.kd
  walk_at "v"
  refine j86 k2 ?_
  cases d with
  | tup ds =>
   obtain⟨p,xs,rfl,hp,hd⟩:=h1
   obtain⟨q,ys,rfl,hq',he⟩:=h2
   have l1:=hd.length
   have l2:=he.length
   walk_at "v"
   refine j86 k1 ?_
   walk_at "v"
   refine j0t hp ?_
   walk_at "v"
   refine j0t hq' ?_
   walk_at "v"
   refine iteD (fun hl=>?_) (fun hl=>absurd (show (xs.length:Int)=ys.length by omega) hl)
   walk_at "v"
   refine j3j hp fun p2 H2 n2 hp2 e2=>?_
   walk_at "v"
   refine j3j (e2 _ _ hq') fun q2 H3 n3 hq3 e3=>?_
   walk_at "v"
   have hn':D.depthL ds+1≤n:=hn
   exact hA _ _ _ _ ⟨n-1,by omega,p2,q2,xs,ys,ds,rfl,e3 _ _ hp2,hq3,hd.mono (e2.tr e3),he.mono (e2.tr e3),hf,by omega,fun H4 e4=>hq H4 ((e2.tr e3).tr e4)⟩
  | lst ds =>
   obtain⟨p,xs,rfl,hp,hd⟩:=h1
   obtain⟨q,ys,rfl,hq',he⟩:=h2
   have l1:=hd.length
   have l2:=he.length
   walk_at "v"
   refine jff k2 ?_
   walk_at "v"
   refine jff k1 ?_
   walk_at "v"
   refine j3n hp ?_
   walk_at "v"
   refine j3n hq' ?_
   walk_at "v"
   refine iteD (fun hl=>?_) (fun hl=>absurd (show (xs.length:Int)=ys.length by omega) hl)
   walk_at "v"
   have hn':D.depthL ds+1≤n:=hn
   exact hA _ _ _ _ ⟨n-1,by omega,p,q,xs,ys,ds,rfl,hp,hq',hd,he,hf,by omega,hq⟩
  | str c =>
   cases (show y=.str c from h2)
   cases (show x=.str c from h1)
   walk_at "v"
   refine jff k2 ?_
   walk_at "v"
   refine jfe k2 ?_
   walk_at "v"
   refine jfe k1 ?_
   walk_at "v"
   refine j09 ?_
   rw[decide_eq_true rfl]
   exact hq H Ext.rfl'
  | int c =>
   cases (show y=.int c from h2)
   cases (show x=.int c from h1)
   walk_at "v"
   refine jff k2 ?_
   walk_at "v"
   refine jfe k2 ?_
   walk_at "v"
   refine⟨.int c,_,rfl,k1,?_⟩
   walk_at "v"
   rw[decide_eq_true rfl]
   exact hq H Ext.rfl'
  | bl c=>cases hf
  | non=>cases hf
  | dct=>cases hf
theorem j80 (T:Txt K mg a):∀ n:Nat,FnOk P w K mg base (CXU P w) (2 * n+2) a.f_z84 a.d_z84 ["_law_found","_law_due"] (j1r n)
 | 0=>jbw (k:=0) (spA:=fun _ _ _ _=>False) T (fun _ _ _ _ ⟨m,e,_⟩=>by omega) FnOk.no
 | n+1=>by
  have G:=j8f T (j80 T n)
  have z:=jbw (n:=n+1) (k:=2 * n+2) (spA:=j1q n) T (fun _ _ _ _ ⟨m,e,h⟩=>by cases e;exact h) G
  exact z
theorem j0v (T:Txt K mg a):FnOk P w K mg base (CXU P w) 12 a.f_z84 a.d_z84 ["_law_found","_law_due"] (j1r 5):=j80 T 5
theorem j0h {x y:V}{d:D}{H:Hp}{Q:VK}{E:XK} (h1:Rep H d x) (h2:Rep H d y) (hf:plD d=true) (hd:Nat.ble d.depth 5=true) (hq:∀ H',Ext H H'→Q (.bl true) H'):j1r 5 [x,y] H Q E :=
 ⟨x,y,d,rfl,h1,h2,hf,Nat.le_of_ble_eq_true hd,hq⟩
namespace Nb
def j22 (a:Adr):Sp:=fun vs H Q _=>∃ (r:Addr) (R z s:Int) (ps ss:List Int),vs=[.ref r,.int s]∧BagAt a H r R ps ss z∧ps.length≤1000∧∀ l H',H l=none→H' l=some (.lst ((beh ps s R).map V.int))→Ext H H'→Q (.ref l) H'
theorem ok_Filler_loads_behind (T:Txt K mg a):FnOk P w K mg base (CXU P w) 1 a.f_z0 a.d_z0 ["self","size"] (j22 a):=by
 refine T.F_z0.okU sc_z0 (fun vs H Q E h=>?_) (fun cdv A outer s H vs Q E hr h=>?_)
 ·obtain⟨r,R,z,s,ps,ss,rfl,hB,hl,hq⟩:=h
  rfl
 ·obtain⟨r,R,z,s,ps,ss,rfl,hB,hl,hq⟩:=h
  have zc_Bags:=T.cl_Bags
  have zn_Bags_room:=T.na_Bags_room
  have zc_Both:=T.cl_Both
  have zn_Both_world:=T.na_Both_world
  have zc_Buyer:=T.cl_Buyer
  have zn_Buyer_world:=T.na_Buyer_world
  have zc_Changer:=T.cl_Changer
  have zn_Changer_world:=T.na_Changer_world
  have zc_Filler:=T.cl_Filler
  have zn_Filler_packed:=T.na_Filler_packed
  have zn_Filler_world:=T.na_Filler_world
  have zc_Front:=T.cl_Front
  have zn_Front_world:=T.na_Front_world
  have zc_Keeper:=T.cl_Keeper
  have zn_Keeper_world:=T.na_Keeper_world
  refine⟨_,(j02 (j0u (PW.pt (jda (ptT (j0l (pv 0) rfl) (fun _=>rfl)) (jbc (j0g oLeW (j0p j1a (j14 oIx (j0l (pv 0) rfl) (jc0 j6c j08) (fun _ _=>rfl)) (pv 1)) (j0l (j0l (pv 0) rfl) rfl) (j0m _))))) (j03 (j0a (j0p j1a (j1u oSl (j0l (pv 0) rfl) j31 (j27 (jc0 j6c j08))) (j35 (j00 (j0p j1a (j14 oIx (j0l (pv 0) rfl) (jc0 j6c j08) (fun _ _=>rfl)) (pv 1)) j01))))) j0c)
   (j03 (j0a (j0p j1a (j0l (pv 0) rfl) (j35 (j00 (pv 1) j01)))))),?_⟩
  unfold beh at hq
  obtain⟨dx,wo,dw,st,q,h1,h2,h3,h4⟩:=hB.ex
  walk_at "v"
  refine jaj (SqL.of h4) ?_
  by_cases hne:ps=[]
  ·subst hne
   rw[if_neg (fun q=>q.1 rfl)] at hq
   walk_at "v"
   intro p1 H1 n1 q1 e1
   walk_at "v"
   refine j2m (e1 _ _ h4) q1 (by simp) fun l H2 n2 q2 e2=>?_
   exact hq l H2 (e1.free n2) q2 (e1.tr e2)
  ·have et:(!(ps.map V.int).isEmpty)=true:=by
    cases ps with
    | nil=>exact (hne rfl).elim
    | cons _ _=>rfl
   rw[et]
   walk_at "v"
   refine j25 h4 (atI_last' hne) ?_
   walk_at "v"
   refine iteD (fun c=>?_) (fun c=>?_)
   ·rw[if_pos ⟨hne,c⟩] at hq
    walk_at "v"
    refine r_slL h4 fun l1 H1 n1 q1 e1=>?_
    rw[jcv hne] at q1
    have h41:=e1 _ _ h4
    have h11:=e1 _ _ h1
    walk_at "v"
    refine j25 h41 (atI_last' hne) ?_
    walk_at "v"
    intro p2 H2 n2 q2 e2
    walk_at "v"
    refine j2m (e2 _ _ q1) q2 (by simp;omega) fun l H3 n3 q3 e3=>?_
    exact hq l H3 ((e1.tr e2).free n3) (by rw[q3];simp) ((e1.tr e2).tr e3)
   ·rw[if_neg (fun q=>c q.2)] at hq
    walk_at "v"
    intro p1 H1 n1 q1 e1
    walk_at "v"
    refine j2m (e1 _ _ h4) q1 (by simp;omega) fun l H2 n2 q2 e2=>?_
    exact hq l H2 (e1.free n2) (by rw[q2];simp) (e1.tr e2)
end Nb
namespace Nb
def j49 (a:Adr):Sp:=fun vs H Q _=>∃ (r:Addr) (R z s:Int) (ps ss:List Int),vs=[.ref r,.int s]∧BagAt a H r R ps ss z∧ps.length≤60∧∀ q' H',H q'=none→BagQ a H' r R (beh ps s R) ss z q'→But r H H'→Q .non H'
theorem ok_Filler_learn (T:Txt K mg a):FnOk P w K mg base (CXU P w) 2 a.f_z28 a.d_z28 ["self","wish"] (j49 a):=by
 refine T.F_z28.okU sc_z28 (fun vs H Q E h=>?_) (fun cdv A outer s H vs Q E hr h=>?_)
 ·obtain⟨r,R,z,s,ps,ss,rfl,hB,hl,hq⟩:=h
  rfl
 ·obtain⟨r,R,z,s,ps,ss,rfl,hB,hl,hq⟩:=h
  have zc_Filler:=T.cl_Filler
  have zn_Filler_packed:=T.na_Filler_packed
  refine⟨_,(j03 (j0x (pv 0) (j0e (pv 0) T.cl_Filler T.me_Filler_loads_behind (Nb.ok_Filler_loads_behind T) (hr.mono (by decide)) T.b_z0 .nil j0d (j00 (pv 1) j01)) rfl)),?_⟩
  obtain⟨dx,wo,dw,st,q,h1,h2,h3,h4⟩:=hB.ex
  walk_at "v"
  refine⟨r,R,z,s,ps,ss,rfl,hB,by omega,fun l H1 n1 q1 e1=>?_⟩
  have h11:=e1 _ _ h1
  walk_at "v"
  refine j1p h11 T.cl_Filler T.na_Filler_packed (j0y rfl) fun H2 q2 b2=>?_
  have nw:wo≠r:=(j47 h1 h2 (by intro z;injection z with _ _ z;exact absurd (congrArg List.length z) (by show 4≠1;decide))).symm
  have ns:st≠r:=j47 h3 h1 (by intro z;cases z)
  have nl:l≠r:=(j05 h1 n1).symm
  exact hq l H2 n1 ⟨dx,wo,dw,st,q2,b2 _ _ nw (e1 _ _ h2),b2 _ _ ns (e1 _ _ h3),b2 _ _ nl q1⟩ (Ext.toBut e1 b2)
end Nb
namespace Nb
def j2u (a:Adr):Sp:=fun vs H Q _=>∃ (r q:Addr) (R z:Int) (x:V) (ps ss os:List Int),vs=[.ref r,x,.ref q]∧BagAt a H r R ps ss z∧H q=some (.tup (os.map V.int))∧Q (.int ((os.length:Int)-ss.length)) H
theorem ok_Filler_price_to (T:Txt K mg a):FnOk P w K mg base (CXU P w) 1 a.f_z4 a.d_z4 ["self","wish","after"] (j2u a):=by
 refine T.F_z4.okU sc_z4 (fun vs H Q E h=>?_) (fun cdv A outer s H vs Q E hr h=>?_)
 ·obtain⟨r,q,R,z,x,ps,ss,os,rfl,hB,hq',hq⟩:=h
  rfl
 ·obtain⟨r,q,R,z,x,ps,ss,os,rfl,hB,hq',hq⟩:=h
  have zc_Both:=T.cl_Both
  have zn_Both_standing:=T.na_Both_standing
  have zc_Buyer:=T.cl_Buyer
  have zn_Buyer_standing:=T.na_Buyer_standing
  have zc_Changer:=T.cl_Changer
  have zn_Changer_standing:=T.na_Changer_standing
  have zc_Filler:=T.cl_Filler
  have zn_Filler_standing:=T.na_Filler_standing
  have zc_Front:=T.cl_Front
  have zn_Front_standing:=T.na_Front_standing
  have zc_Keeper:=T.cl_Keeper
  have zn_Keeper_standing:=T.na_Keeper_standing
  refine⟨_,(j03 (j0a (j0p j2q (j07 j1w (by rfl) T.n_len PySem.boot_len (j00 (pv 2) j01)) (j07 j1w (by rfl) T.n_len PySem.boot_len (j00 (j0l (pv 0) rfl) j01))))),?_⟩
  obtain⟨dx,wo,dw,st,q0,h1,h2,h3,h4⟩:=hB.ex
  walk_at "v"
  refine j0t hq' ?_
  rw[List.length_map]
  walk_at "v"
  refine j0t h3 ?_
  rw[List.length_map]
  walk_at "v"
  exact hq
end Nb
namespace Nb
def j3r (a:Adr):Sp:=fun vs H Q _=>∃ (r:Addr) (R z s:Int) (ps ss:List Int),vs=[.ref r,.int s]∧BagAt a H r R ps ss z∧ps.length≤60∧∀ p (ss':List Int) H',ss'.Perm (beh ps s R)→ss'.Pairwise (·≤·)→H' p=some (.tup (ss'.map V.int))→Ext H H'→Q (.ref p) H'
theorem ok_Filler_target (T:Txt K mg a):FnOk P w K mg base (CXU P w) 2 a.f_z15 a.d_z15 ["self","wish"] (j3r a):=by
 refine T.F_z15.okU sc_z15 (fun vs H Q E h=>?_) (fun cdv A outer s H vs Q E hr h=>?_)
 ·obtain⟨r,R,z,s,ps,ss,rfl,hB,hl,hq⟩:=h
  rfl
 ·obtain⟨r,R,z,s,ps,ss,rfl,hB,hl,hq⟩:=h
  refine⟨_,(j03 (j0a (j0r j3i (by rfl) T.n_tuple PyProof.Rows.boot_tuple (j00 (j07 j37 (by rfl) T.n_sorted PyProof.Rows.boot_sorted (j00 (j0e (pv 0) T.cl_Filler T.me_Filler_loads_behind (Nb.ok_Filler_loads_behind T) (hr.mono (by decide)) T.b_z0 .nil j0d (j00 (pv 1) j01)) j01)) j01)))),?_⟩
  have bl:=beh_len ps s R
  obtain⟨dx,wo,dw,st,q,h1,h2,h3,h4⟩:=hB.ex
  walk_at "v"
  refine⟨r,R,z,s,ps,ss,rfl,hB,by omega,fun l H1 n1 q1 e1=>?_⟩
  walk_at "v"
  refine jez q1 (by omega) fun l2 ns' H2 n2 hp hs q2 e2=>?_
  walk_at "v"
  refine j17 q2 fun l3 H3 n3 q3 e3=>?_
  exact hq l3 ns' H3 hp hs q3 ((e1.tr e2).tr e3)
end Nb
def j2v:Sp:=fun vs H Q _=>∃ x k,vs=[x]∧HasK H x k∧Q (.bl (k == .int)) H
theorem j10 (T:Txt K mg a):FnOk P w K mg base (CXU P w) 1 a.f_z6 a.d_z6 ["thing"] (j2v):=by
 refine T.F_z6.okU sc_z6 (fun vs H Q E h=>?_) (fun cdv A outer s H vs Q E hr h=>?_)
 ·obtain⟨x,k,rfl,hk,hq⟩:=h
  rfl
 ·obtain⟨x,k,rfl,hk,hq⟩:=h
  refine⟨_,(j03 (j0a (j1t (j07 j28 (by rfl) T.n_isinstance PyProof.Rows.boot_isinstance (j00 (pv 0) (j00 (j1b (v:=V.ty "int") (by rfl) T.n_int PyProof.Rows.boot_int rfl) j01))) (j1y (jdb (j07 j28 (by rfl) T.n_isinstance PyProof.Rows.boot_isinstance (j00 (pv 0) (j00 (j1b (v:=V.ty "bool") (by rfl) T.n_bool PyProof.Rows.boot_bool rfl) j01)))))))),?_⟩
  walk_at "v"
  refine r_isI hk ?_
  cases k <;> (walk_at "v") <;> first | exact hq | (refine r_isB hk ?_;(walk_at "v");exact hq)
def fot (m:Int):V→Bool
 | .int i=>decide (1≤i) && decide (i≤m)
 | _=>false
def j39:Sp:=fun vs H Q _=>∃ x k m,vs=[x,.int m]∧HasK H x k∧Q (.bl (fot m x)) H
theorem j1e (T:Txt K mg a):FnOk P w K mg base (CXU P w) 2 a.f_z11 a.d_z11 ["thing","most"] (j39):=by
 refine T.F_z11.okU sc_z11 (fun vs H Q E h=>?_) (fun cdv A outer s H vs Q E hr h=>?_)
 ·obtain⟨x,k,m,rfl,hk,hq⟩:=h
  rfl
 ·obtain⟨x,k,m,rfl,hk,hq⟩:=h
  refine⟨_,(j03 (j0a (j1t (j0f (j10 T) (hr.mono (by decide)) (by rfl) T.m_z6 T.F_z6.kp T.b_z6 .nil j0d (j00 (pv 0) j01)) (j1y (j2r oLeW oLeW j08 (pv 0) (pv 1)))))),?_⟩
  walk_at "v"
  refine⟨x,k,rfl,hk,?_⟩
  cases x with
  | int i =>
   cases (show k=.int from hk)
   walk_at "v"
   refine iteD (fun h=>?_) (fun h=>?_)
   ·walk_at "v"
    have e:fot m (.int i)=decide (i≤m):=by show (decide (1≤i) && _)=_;rw[decide_eq_true h,Bool.true_and]
    rw[← e];exact hq
   ·walk_at "v"
    have e:fot m (.int i)=false:=by show (decide (1≤i) && _)=_;rw[decide_eq_false h,Bool.false_and]
    rw[← e];exact hq
  | non=>cases (show k=.non from hk);(walk_at "v");exact hq
  | bl b=>cases (show k=.bl from hk);(walk_at "v");exact hq
  | str b=>cases (show k=.str from hk);(walk_at "v");exact hq
  | ref b =>
   have e:(k == .int)=false:=by rcases hk with⟨_,_,rfl⟩ | ⟨_,_,rfl⟩ | ⟨_,_,rfl⟩ <;> rfl
   rw[e];(walk_at "v");exact hq
  | _=>exact hk.elim
namespace Nb
def j4a (a:Adr):Sp:=fun vs H Q _=>∃ (w dw:Addr) (R:Int) (x:V) (k:Kd),vs=[.ref w,x]∧H w=some (.ins a.c_Bags dw [("room",.int R)])∧HasK H x k∧Q (.bl (fot R x)) H
theorem ok_Bags_is_wish (T:Txt K mg a):FnOk P w K mg base (CXU P w) 3 a.f_z24 a.d_z24 ["self","thing"] (j4a a):=by
 refine T.F_z24.okU sc_z24 (fun vs H Q E h=>?_) (fun cdv A outer s H vs Q E hr h=>?_)
 ·obtain⟨w,dw,R,x,k,rfl,hw,hk,hq⟩:=h
  rfl
 ·obtain⟨w,dw,R,x,k,rfl,hw,hk,hq⟩:=h
  have zc_Bags:=T.cl_Bags
  have zn_Bags_room:=T.na_Bags_room
  refine⟨_,(j03 (j0a (j0f (j1e T) (hr.mono (by decide)) (by rfl) T.m_z11 T.F_z11.kp T.b_z11 .nil j0d (j00 (pv 1) (j00 (j0l (pv 0) rfl) j01))))),?_⟩
  walk_at "v"
  exact⟨x,k,R,rfl,hk,hq⟩
end Nb
namespace Nb
def sp_Rule_pay (a:Adr):Sp:=fun vs H Q _=>∃ (r:Addr) (R z s:Int) (ps ss:List Int),vs=[.ref r,.int s]∧BagAt a H r R ps ss z∧1≤s∧s≤R∧ps.length≤60∧∀ (ss':List Int) q' H',H q'=none→ss'.Perm (beh ps s R)→ss'.Pairwise (·≤·)→BagQ a H' r R (beh ps s R) ss' (z+(((beh ps s R).length:Int)-ss.length)) q'→But r H H'→Q (.int (((beh ps s R).length:Int)-ss.length)) H'
theorem ok_Rule_pay (T:Txt K mg a):FnOk P w K mg base (CXU P w) 4 a.f_z79 a.d_z79 ["self","wish"] (sp_Rule_pay a):=by
 refine T.F_z79.okU j1x (fun vs H Q E h=>?_) (fun cdv A outer s H vs Q E hr h=>?_)
 ·obtain⟨r,R,z,s,ps,ss,rfl,hB,s1,s2,hl,hq⟩:=h
  rfl
 ·obtain⟨r,R,z,s,ps,ss,rfl,hB,s1,s2,hl,hq⟩:=h
  have zc_Both:=T.cl_Both
  have zn_Both_world:=T.na_Both_world
  have zn_Both_standing:=T.na_Both_standing
  have zn_Both_spent:=T.na_Both_spent
  have zc_Buyer:=T.cl_Buyer
  have zn_Buyer_world:=T.na_Buyer_world
  have zn_Buyer_standing:=T.na_Buyer_standing
  have zn_Buyer_spent:=T.na_Buyer_spent
  have zc_Changer:=T.cl_Changer
  have zn_Changer_world:=T.na_Changer_world
  have zn_Changer_standing:=T.na_Changer_standing
  have zn_Changer_spent:=T.na_Changer_spent
  have zc_Filler:=T.cl_Filler
  have zn_Filler_world:=T.na_Filler_world
  have zn_Filler_standing:=T.na_Filler_standing
  have zn_Filler_spent:=T.na_Filler_spent
  have zc_Front:=T.cl_Front
  have zn_Front_world:=T.na_Front_world
  have zn_Front_standing:=T.na_Front_standing
  have zn_Front_spent:=T.na_Front_spent
  have zc_Keeper:=T.cl_Keeper
  have zn_Keeper_world:=T.na_Keeper_world
  have zn_Keeper_standing:=T.na_Keeper_standing
  have zn_Keeper_spent:=T.na_Keeper_spent
  refine⟨_,(j02 (j0u (j0s (ptT (j0e (j0l (pv 0) rfl) T.cl_Bags T.me_Bags_is_wish (Nb.ok_Bags_is_wish T) (hr.mono (by decide)) T.b_z24 .nil j0d (j00 (pv 1) j01)) (fun _=>rfl))) (j03 j11) j0c)
   (j02 (j0z (i:=2) j1x.nd rfl (by first | exact Or.inl rfl | exact Or.inr rfl) (j0e (pv 0) T.cl_Filler T.me_Filler_target (Nb.ok_Filler_target T) (hr.mono (by decide)) T.b_z15 .nil j0d (j00 (pv 1) j01)))
   (j02 (j0z (i:=3) j1x.nd rfl (by first | exact Or.inl rfl | exact Or.inr rfl) (j0e (pv 0) T.cl_Filler T.me_Filler_price_to (Nb.ok_Filler_price_to T) (hr.mono (by decide)) T.b_z4 .nil j0d (j00 (pv 1) (j00 (pv 2) j01))))
   (j02 (j1l (j0e (pv 0) T.cl_Filler T.me_Filler_learn (Nb.ok_Filler_learn T) (hr.mono (by decide)) T.b_z28 .nil j0d (j00 (pv 1) j01)))
   (j02 (j0x (pv 0) (pv 2) rfl)
   (j02 (j0x (pv 0) (j0p j1a (j0l (pv 0) rfl) (pv 3)) rfl)
   (j03 (j0a (pv 3))))))))),?_⟩
  obtain⟨dx,wo,dw,st,q,h1,h2,h3,h4⟩:=hB.ex
  walk_at "v"
  refine⟨wo,dw,R,.int s,.int,rfl,h2,rfl,?_⟩
  rw[show fot R (.int s)=true by show (decide (1≤s) && decide (s≤R))=true;rw[decide_eq_true s1,decide_eq_true s2];rfl]
  walk_at "v"
  refine⟨r,R,z,s,ps,ss,rfl,hB,hl,fun p1 ss' H1 hp hs q1 e1=>?_⟩
  have h11:=e1 _ _ h1
  walk_at "v"
  refine⟨r,p1,R,z,.int s,ps,ss,ss',rfl,hB.ext e1,q1,?_⟩
  rw[hp.length_eq]
  walk_at "v"
  refine⟨r,R,z,s,ps,ss,rfl,hB.ext e1,hl,fun q2' H2 n2 B2 b2=>?_⟩
  obtain⟨dx2,wo2,dw2,st2,y1,y2,y3,y4⟩:=B2.ex
  walk_at "v"
  refine j1p y1 T.cl_Filler T.na_Filler_standing (j0y rfl) fun H3 q3 b3=>?_
  walk_at "v"
  refine j1p q3 T.cl_Filler T.na_Filler_spent (j0y rfl) fun H4 q4 b4=>?_
  walk_at "v"
  have nw:wo2≠r:=(j47 y1 y2 (by intro z;injection z with _ _ z;exact absurd (congrArg List.length z) (by show 4≠1;decide))).symm
  have np:p1≠r:=j47 q1 h11 (by intro z;cases z)
  have nq:q2'≠r:=j47 y4 y1 (by intro z;cases z)
  have b34:=b3.tr b4
  exact hq ss' q2' H4 (e1.free n2) hp hs ⟨dx2,wo2,dw2,p1,q4,b34 _ _ nw y2,b34 _ _ np (b2 _ _ np q1),b34 _ _ nq y4⟩ (Ext.toBut e1 (b2.tr b34))
end Nb
namespace Nk
def j2c (a:Adr):Sp:=fun vs H Q _=>∃ (r:Addr) (row:List Str) (z:Int) (w:Str),vs=[.ref r,.str w]∧KeepAt a H r row z∧1≤row.length∧row.length≤1000∧∀ l H',H l=none→H' l=some (.lst ((beh w row).map V.str))→Ext H H'→Q (.ref l) H'
theorem ok_Keeper_row_behind (T:Txt K mg a):FnOk P w K mg base (CXU P w) 1 a.f_z1 a.d_z1 ["self","wish"] (j2c a):=by
 refine T.F_z1.okU sc_z1 (fun vs H Q E h=>?_) (fun cdv A outer s H vs Q E hr h=>?_)
 ·obtain⟨r,row,z,w,rfl,hB,h1l,hl,hq⟩:=h
  rfl
 ·obtain⟨r,row,z,w,rfl,hB,h1l,hl,hq⟩:=h
  have zc_Keeper:=T.cl_Keeper
  have zn_Keeper_row:=T.na_Keeper_row
  refine⟨_,(j02 (j0u (j0g oIn (pv 1) (j0l (pv 0) rfl) (by with_unfolding_all rfl)) (j03 (j0a (j0p j1a (j1f (["page"]:List Str) (["wish"]:List Str) [1] rfl ⟨rfl,by decide +kernel,by decide +kernel,by rfl,⟨⟨rfl,by first | exact Or.inl rfl | exact Or.inr rfl,by first | exact Or.inl rfl | exact Or.inr rfl⟩,trivial⟩⟩ (j8t (j0l (pv 0) rfl)) (fun _ _ _ _=>⟨(j0w (i:=0) (by show ((["page"]:List Str)++(["wish"]:List Str)).Nodup;decide +kernel) rfl (by first | exact Or.inl rfl | exact Or.inr rfl)),(show PTs _ [_] [_] from⟨(j0g (oNe hr) (pv 0) (pv 1) (j0m _)),trivial⟩),(pv 0)⟩)) (j35 (j00 (pv 1) j01))))) j0c)
   (j03 (j0a (j0p j1a (j1u oSl (j0l (pv 0) rfl) (j27 j08) j31) (j35 (j00 (pv 1) j01)))))),?_⟩
  obtain⟨dx,wo,dw,st,q,ss,k⟩:=hB.ex
  have h1:=k.hr
  have hqq:=k.hq
  walk_at "v"
  refine r_inL hqq rfl (j3e _) ?_
  rw[j58]
  walk_at "v"
  refine iteD (fun hm=>?_) (fun hm=>?_)
  ·walk_at "v"
   refine⟨q,rfl,⟨_,SqL.of hqq⟩,fun acc hn _ _ _ _=>j7m (SqL.of hqq) (by rw[List.length_map];omega) hn (fun j ys _=>ys=((row.take j).filter fun t=>!decide (t=w)).map V.str) (by simp) (fun _ _ _ _ _ h=>h) (fun j ys H' _ h=>by rw[h,List.length_map];exact Nat.le_trans (List.length_filter_le _ _) (by rw[List.length_take];omega)) ?_ ?_⟩
   ·rintro j y ys H2 hy e rfl Y N hY hN
    obtain⟨y,ey,rfl⟩:=j7z hy
    have et:row.take (j+1)=row.take j++[y]:=by rw[List.take_add_one,ey];rfl
    walk_at "v"
    refine jek ?_
    walk_at "v"
    refine iteN (fun h=>?_) (fun h=>?_)
    ·walk_at "v"
     refine hY _ _ Ext.rfl' ?_
     rw[et,List.filter_append,List.filter_cons,if_pos (by simp[h]),List.map_append]
     rfl
    ·walk_at "v"
     refine hN _ Ext.rfl' ?_
     rw[et,List.filter_append,List.filter_cons,if_neg (by simp[h]),List.filter_nil,List.append_nil]
   ·rintro ys H2 e2 ha rfl
    rw[List.length_map,List.take_of_length_le (Nat.le_refl _)] at ha
    walk_at "v"
    intro p3 H3 n3 q3 e3
    have zl:=List.length_filter_le (fun t=>!decide (t=w)) row
    walk_at "v"
    refine j2m (e3 _ _ ha) q3 (by simp only[List.length_map,List.length_cons,List.length_nil];omega) fun q4 H4 n4 h4 e4=>?_
    have eb:(beh w row).map V.str=(row.filter fun t=>!decide (t=w)).map V.str++[V.str w]:=by unfold beh;rw[if_pos hm,List.map_append];rfl
    rw[← eb] at h4
    exact hq q4 H4 ((e2.tr e3).free n4) h4 ((e2.tr e3).tr e4)
  ·walk_at "v"
   refine r_slL hqq fun l2 H2 n2 q2 e2=>?_
   rw[show (1:Int)=((1:Nat):Int) from rfl,jcy h1l] at q2
   walk_at "v"
   intro p3 H3 n3 q3 e3
   walk_at "v"
   refine j2m (e3 _ _ q2) q3 (by simp only[List.length_map,List.length_cons,List.length_nil,List.length_drop];omega) fun q4 H4 n4 h4 e4=>?_
   have eb:(beh w row).map V.str=(row.drop 1).map V.str++[V.str w]:=by unfold beh;rw[if_neg hm,List.map_append];rfl
   rw[← eb] at h4
   exact hq q4 H4 ((e2.tr e3).free n4) h4 ((e2.tr e3).tr e4)
end Nk
namespace Nk
def j4b (a:Adr):Sp:=fun vs H Q _=>∃ (r dx wo dw st q:Addr) (row ss:List Str) (z:Int) (w:Str),vs=[.ref r,.str w]∧KeepR a H r row z dx wo dw st q ss∧1≤row.length∧row.length≤1000∧∀ q' H',H' r=some (.ins a.c_Keeper dx (kfl wo st z q'))→H' q'=some (.lst ((beh w row).map V.str))→But r H H'→Q .non H'
theorem ok_Keeper_learn (T:Txt K mg a):FnOk P w K mg base (CXU P w) 2 a.f_z33 a.d_z33 ["self","wish"] (j4b a):=by
 refine T.F_z33.okU sc_z33 (fun vs H Q E h=>?_) (fun cdv A outer s H vs Q E hr h=>?_)
 ·obtain⟨r,dx,wo,dw,st,q,row,ss,z,w,rfl,k,h1l,hl,hq⟩:=h
  rfl
 ·obtain⟨r,dx,wo,dw,st,q,row,ss,z,w,rfl,k,h1l,hl,hq⟩:=h
  have zc_Keeper:=T.cl_Keeper
  have zn_Keeper_row:=T.na_Keeper_row
  refine⟨_,(j03 (j0x (pv 0) (j0e (pv 0) T.cl_Keeper T.me_Keeper_row_behind (Nk.ok_Keeper_row_behind T) (hr.mono (by decide)) T.b_z1 .nil j0d (j00 (pv 1) j01)) rfl)),?_⟩
  have h1:=k.hr
  walk_at "v"
  refine⟨r,row,z,w,rfl,⟨_,_,_,_,_,_,k⟩,h1l,hl,fun l H1 n1 q1 e1=>?_⟩
  have h11:=e1 _ _ h1
  walk_at "v"
  refine j1p h11 T.cl_Keeper T.na_Keeper_row (j0y rfl) fun H2 h2 b2=>?_
  exact hq l H2 h2 (b2 _ _ (j47 q1 h11 (by intro z;cases z)) q1) (Ext.toBut e1 b2)
end Nk
namespace Nk
def j59:Sp:=fun vs H Q _=>∃ (r p q:Addr) (ss qs:List Str) (w:Str),vs=[.ref r,.ref p,.str w,.ref q]∧H p=some (.tup (ss.map V.str))∧H q=some (.tup (qs.map V.str))∧qs.length≤1000∧w∈qs∧∀ H',Ext H H'→Q (.int ((qs.filter fun t=>!decide (t∈ss)).length:Nat)) H'
theorem ok_Store_price (T:Txt K mg a):FnOk P w K mg base (CXU P w) 1 a.f_z47 a.d_z47 ["self","before","wish","after"] (j59):=by
 refine T.F_z47.okU sc_z47 (fun vs H Q E h=>?_) (fun cdv A outer s H vs Q E hr h=>?_)
 ·obtain⟨r,p,q,ss,qs,w,rfl,hp,hq',hl,hw,hq⟩:=h
  rfl
 ·obtain⟨r,p,q,ss,qs,w,rfl,hp,hq',hl,hw,hq⟩:=h
  refine⟨_,(j02 (j0u (j0g jcc (pv 2) (pv 3) (by with_unfolding_all rfl)) (j03 (j0a j82)) j0c)
   (j03 (j0a (j07 j1w (by rfl) T.n_len PySem.boot_len (j00 (j1f (["page"]:List Str) (["before"]:List Str) [1] rfl ⟨rfl,by decide +kernel,by decide +kernel,by rfl,⟨⟨rfl,by first | exact Or.inl rfl | exact Or.inr rfl,by first | exact Or.inl rfl | exact Or.inr rfl⟩,trivial⟩⟩ (j4y (pv 3)) (fun _ _ _ _=>⟨(j0w (i:=0) (by show ((["page"]:List Str)++(["before"]:List Str)).Nodup;decide +kernel) rfl (by first | exact Or.inl rfl | exact Or.inr rfl)),(show PTs _ [_] [_] from⟨(j0g jcc (pv 0) (pv 1) (by with_unfolding_all rfl)),trivial⟩),(pv 0)⟩)) j01))))),?_⟩
  walk_at "v"
  refine j6l hq' rfl (j3e _) ?_
  rw[j58,decide_eq_true hw,Bool.not_true]
  walk_at "v"
  refine⟨q,rfl,⟨_,SqT.of hq'⟩,fun acc hn _ _ _ _=>j29 (SqT.of hq') (by rw[List.length_map];omega) hn (fun j ys _=>ys=((qs.take j).filter fun t=>!decide (t∈ss)).map V.str) (by simp) (fun _ _ _ _ _ h=>h) (fun j ys H' _ h=>by rw[h,List.length_map];exact Nat.le_trans (List.length_filter_le _ _) (by rw[List.length_take];omega)) ?_ ?_⟩
  ·rintro j y ys H2 hy e rfl Y N hY hN
   obtain⟨y,ey,rfl⟩:=j7z hy
   have et:qs.take (j+1)=qs.take j++[y]:=by rw[List.take_add_one,ey];rfl
   walk_at "v"
   refine j6l (e _ _ hp) rfl (j3e _) ?_
   rw[j58]
   walk_at "v"
   refine iteN (fun h=>?_) (fun h=>?_)
   ·walk_at "v"
    refine hY _ _ Ext.rfl' ?_
    rw[et,List.filter_append,List.filter_cons,if_pos (by simp[h]),List.map_append]
    rfl
   ·walk_at "v"
    refine hN _ Ext.rfl' ?_
    rw[et,List.filter_append,List.filter_cons,if_neg (by simp[h]),List.filter_nil,List.append_nil]
  ·rintro ys H2 e2 ha rfl
   rw[List.length_map,List.take_of_length_le (Nat.le_refl _)] at ha
   walk_at "v"
   refine j3n ha ?_
   rw[List.length_map]
   exact hq H2 e2
end Nk
namespace Nk
def sp_Rule_price_to (a:Adr):Sp:=fun vs H Q _=>∃ (r q:Addr) (row qs:List Str) (z:Int) (w:Str),vs=[.ref r,.str w,.ref q]∧KeepAt a H r row z∧H q=some (.tup (qs.map V.str))∧qs.length≤1000∧w∈qs∧∀ H',Ext H H'→Q (.int ((qs.filter fun t=>!decide (t∈row)).length:Nat)) H'
theorem ok_Rule_price_to (T:Txt K mg a):FnOk P w K mg base (CXU P w) 2 a.f_z20 a.d_z20 ["self","wish","after"] (sp_Rule_price_to a):=by
 refine T.F_z20.okU j9t (fun vs H Q E h=>?_) (fun cdv A outer s H vs Q E hr h=>?_)
 ·obtain⟨r,q,row,qs,z,w,rfl,hB,hq',hl,hw,hq⟩:=h
  rfl
 ·obtain⟨r,q,row,qs,z,w,rfl,hB,hq',hl,hw,hq⟩:=h
  have zc_Both:=T.cl_Both
  have zn_Both_world:=T.na_Both_world
  have zn_Both_standing:=T.na_Both_standing
  have zc_Buyer:=T.cl_Buyer
  have zn_Buyer_world:=T.na_Buyer_world
  have zn_Buyer_standing:=T.na_Buyer_standing
  have zc_Changer:=T.cl_Changer
  have zn_Changer_world:=T.na_Changer_world
  have zn_Changer_standing:=T.na_Changer_standing
  have zc_Filler:=T.cl_Filler
  have zn_Filler_world:=T.na_Filler_world
  have zn_Filler_standing:=T.na_Filler_standing
  have zc_Front:=T.cl_Front
  have zn_Front_world:=T.na_Front_world
  have zn_Front_standing:=T.na_Front_standing
  have zc_Keeper:=T.cl_Keeper
  have zn_Keeper_world:=T.na_Keeper_world
  have zn_Keeper_standing:=T.na_Keeper_standing
  refine⟨_,(j03 (j0a (j0e (j0l (pv 0) rfl) T.cl_Store T.me_Store_price (Nk.ok_Store_price T) (hr.mono (by decide)) T.b_z47 .nil j0d (j00 (j0l (pv 0) rfl) (j00 (pv 1) (j00 (pv 2) j01)))))),?_⟩
  obtain⟨dx,wo,dw,st,q0,ss,k⟩:=hB.ex
  have h1:=k.hr
  have h2:=k.hw
  have ef:(qs.filter fun t=>!decide (t∈row))=qs.filter fun t=>!decide (t∈ss):=List.filter_congr fun t _=>by rw[decide_eq_decide.mpr k.pm.mem_iff]
  rw[ef] at hq
  walk_at "v"
  exact⟨wo,st,q,ss,qs,w,rfl,k.hs,hq',hl,hw,hq⟩
end Nk
namespace Nk
def j3s (a:Adr):Sp:=fun vs H Q _=>∃ (r:Addr) (row:List Str) (z:Int) (w:Str),vs=[.ref r,.str w]∧KeepAt a H r row z∧Names row∧nmS w=true∧∀ t (ss:List Str) H',ss.Perm (beh w row)→sortedS ss=true→H' t=some (.tup (ss.map V.str))→Ext H H'→Q (.ref t) H'
theorem ok_Keeper_target (T:Txt K mg a):FnOk P w K mg base (CXU P w) 2 a.f_z18 a.d_z18 ["self","wish"] (j3s a):=by
 refine T.F_z18.okU sc_z18 (fun vs H Q E h=>?_) (fun cdv A outer s H vs Q E hr h=>?_)
 ·obtain⟨r,row,z,w,rfl,hB,hN,hw,hq⟩:=h
  rfl
 ·obtain⟨r,row,z,w,rfl,hB,hN,hw,hq⟩:=h
  refine⟨_,(j03 (j0a (j0r j3i (by rfl) T.n_tuple PyProof.Rows.boot_tuple (j00 (j07 j37 (by rfl) T.n_sorted PyProof.Rows.boot_sorted (j00 (j0e (pv 0) T.cl_Keeper T.me_Keeper_row_behind (Nk.ok_Keeper_row_behind T) (hr.mono (by decide)) T.b_z1 .nil j0d (j00 (pv 1) j01)) j01)) j01)))),?_⟩
  have g8:=hN.hi
  have gl:=(beh_names hN hw).2
  obtain⟨dx,wo,dw,st,q,ss,k⟩:=hB.ex
  have h1:=k.hr
  walk_at "v"
  refine⟨r,row,z,w,rfl,hB,hN.lo,by omega,fun l H1 n1 q1 e1=>?_⟩
  walk_at "v"
  refine jcs q1 (by omega) fun l2 s2 H2 n2 p2 o2 q2 e2=>?_
  walk_at "v"
  refine j17 q2 fun t H3 n3 q3 e3=>?_
  exact hq t s2 H3 p2 o2 q3 ((e1.tr e2).tr e3)
end Nk
def j9z:Sp:=fun vs H Q _=>∃ x k,vs=[x]∧HasK H x k∧(∀ z,x=.str z→AscS z∧z.length≤1000)∧∀ H',Ext H H'→Q (.bl (nmV x)) H'
theorem j3t (T:Txt K mg a):FnOk P w K mg base (CXU P w) 1 a.f_z86 a.d_z86 ["thing"] (j9z):=by
 refine T.F_z86.okU sc_z86 (fun vs H Q E h=>?_) (fun cdv A outer s H vs Q E hr h=>?_)
 ·obtain⟨x,k,rfl,hk,hz,hq⟩:=h
  rfl
 ·obtain⟨x,k,rfl,hk,hz,hq⟩:=h
  refine⟨_,(j02 (j0u (PW.pt (j34 (j0s (ptT (j07 j28 (by rfl) T.n_isinstance PyProof.Rows.boot_isinstance (j00 (pv 0) (j00 (j1b (v:=V.ty "str") (by rfl) T.n_str PyProof.Rows.boot_str rfl) j01))) (fun _=>rfl))) (j1k (j0s (j8v oLeW oLeW j08 (j07 j1w (by rfl) T.n_len PySem.boot_len (j00 (pv 0) j01)) j08))))) (j03 (j0a j30)) j0c)
   (j03 (j0a (j07 (cAll rfl) (by rfl) T.n_all PyProof.Rows.boot_all (j00 (j1f (["sign"]:List Str) ([]:List Str) [] rfl ⟨rfl,by decide +kernel,by decide +kernel,by rfl,trivial⟩ (pi_str (pv 0)) (fun _ _ _ _=>⟨(j0w (i:=0) (by show ((["sign"]:List Str)++([]:List Str)).Nodup;decide +kernel) rfl (by first | exact Or.inl rfl | exact Or.inr rfl)),(show PTs _ [] [] from trivial),(j2r oLeW oLeW j0q (pv 0) j0q)⟩)) j01))))),?_⟩
  walk_at "v"
  refine jfe hk ?_
  cases x with
  | str z =>
   cases (show k=.str from hk)
   obtain⟨ha,hl⟩:=hz z rfl
   walk_at "v"
   refine jbp (by omega) ?_
   walk_at "v"
   refine iteD (fun c1=>?_) (fun c1=>?_)
   rotate_left
   ·walk_at "v"
    have e:nmV (.str z)=false:=by show nmS z=false;unfold nmS;rw[show decide (1≤z.length)=false from decide_eq_false (by omega)];rfl
    rw[← e];exact hq H Ext.rfl'
   walk_at "v"
   refine iteN (fun c2=>?_) (fun c2=>?_)
   ·walk_at "v"
    have e:nmV (.str z)=false:=by show nmS z=false;unfold nmS;rw[show decide (z.length≤8)=false from decide_eq_false (by omega),Bool.and_false];rfl
    rw[← e];exact hq H Ext.rfl'
   walk_at "v"
   refine⟨z,rfl,ha,fun acc hn _ _ _ _=>jco V.bl nmL (by show z.length≤1000000;omega) hn (fun i c H3 Y hc e hY=>?_) fun H2 e2 hacc=>?_⟩
   ·walk_at "v"
    rw[cps_a,le_a]
    refine iteD (fun g1=>?_) (fun g1=>?_)
    ·walk_at "v"
     rw[cps_z,le_z]
     have e:nmL c=decide (c≤122):=by unfold nmL;rw[decide_eq_true g1,Bool.true_and]
     rw[← e];exact hY _ Ext.rfl'
    ·have e:nmL c=false:=by unfold nmL;rw[decide_eq_false g1,Bool.false_and]
     rw[← e];exact hY _ Ext.rfl'
   ·walk_at "v"
    refine jed hacc ?_
    have e:nmV (.str z)=(z.cps.toList.map nmL).all id:=by
     show nmS z=_
     unfold nmS
     rw[show decide (1≤z.length)=true from decide_eq_true (by omega),show decide (z.length≤8)=true from decide_eq_true (by omega),List.all_map]
     rfl
    rw[← e];exact hq H2 e2
  | non=>cases (show k=.non from hk);(walk_at "v");exact hq H Ext.rfl'
  | bl b=>cases (show k=.bl from hk);(walk_at "v");exact hq H Ext.rfl'
  | int b=>cases (show k=.int from hk);(walk_at "v");exact hq H Ext.rfl'
  | ref b =>
   have e:(k == .str)=false:=by rcases hk with⟨_,_,rfl⟩ | ⟨_,_,rfl⟩ | ⟨_,_,rfl⟩ <;> rfl
   rw[e];(walk_at "v");exact hq H Ext.rfl'
  | _=>exact hk.elim
namespace Nk
def j3u:Sp:=fun vs H Q _=>∃ (w:Addr) (x:Str),vs=[.ref w,.str x]∧nmS x=true∧∀ H',Ext H H'→Q (.bl true) H'
theorem ok_Store_is_wish (T:Txt K mg a):FnOk P w K mg base (CXU P w) 2 a.f_z22 a.d_z22 ["self","thing"] (j3u):=by
 refine T.F_z22.okU sc_z22 (fun vs H Q E h=>?_) (fun cdv A outer s H vs Q E hr h=>?_)
 ·obtain⟨w,x,rfl,hx,hq⟩:=h
  rfl
 ·obtain⟨w,x,rfl,hx,hq⟩:=h
  refine⟨_,(j03 (j0a (j0f (j3t T) (hr.mono (by decide)) (by rfl) T.m_z86 T.F_z86.kp T.b_z86 .nil j0d (j00 (pv 1) j01)))),?_⟩
  walk_at "v"
  refine⟨.str x,.str,rfl,rfl,fun z ez=>by cases ez;exact⟨j7x hx,by have:=j9x hx;omega⟩,fun H1 e1=>?_⟩
  rw[show nmV (.str x)=true from hx]
  exact hq H1 e1
end Nk
namespace Nk
def sp_Rule_pay (a:Adr):Sp:=fun vs H Q _=>∃ (r:Addr) (row:List Str) (z:Int) (w:Str),vs=[.ref r,.str w]∧KeepAt a H r row z∧Names row∧nmS w=true∧∀ H',KeepAt a H' r (beh w row) (z+cst w row)→But r H H'→Q (.int (cst w row)) H'
theorem ok_Rule_pay (T:Txt K mg a):FnOk P w K mg base (CXU P w) 3 a.f_z79 a.d_z79 ["self","wish"] (sp_Rule_pay a):=by
 refine T.F_z79.okU j1x (fun vs H Q E h=>?_) (fun cdv A outer s H vs Q E hr h=>?_)
 ·obtain⟨r,row,z,w,rfl,hB,hN,hw,hq⟩:=h
  rfl
 ·obtain⟨r,row,z,w,rfl,hB,hN,hw,hq⟩:=h
  have zc_Both:=T.cl_Both
  have zn_Both_world:=T.na_Both_world
  have zn_Both_standing:=T.na_Both_standing
  have zn_Both_spent:=T.na_Both_spent
  have zc_Buyer:=T.cl_Buyer
  have zn_Buyer_world:=T.na_Buyer_world
  have zn_Buyer_standing:=T.na_Buyer_standing
  have zn_Buyer_spent:=T.na_Buyer_spent
  have zc_Changer:=T.cl_Changer
  have zn_Changer_world:=T.na_Changer_world
  have zn_Changer_standing:=T.na_Changer_standing
  have zn_Changer_spent:=T.na_Changer_spent
  have zc_Filler:=T.cl_Filler
  have zn_Filler_world:=T.na_Filler_world
  have zn_Filler_standing:=T.na_Filler_standing
  have zn_Filler_spent:=T.na_Filler_spent
  have zc_Front:=T.cl_Front
  have zn_Front_world:=T.na_Front_world
  have zn_Front_standing:=T.na_Front_standing
  have zn_Front_spent:=T.na_Front_spent
  have zc_Keeper:=T.cl_Keeper
  have zn_Keeper_world:=T.na_Keeper_world
  have zn_Keeper_standing:=T.na_Keeper_standing
  have zn_Keeper_spent:=T.na_Keeper_spent
  refine⟨_,(j02 (j0u (j0s (ptT (j0e (j0l (pv 0) rfl) T.cl_Store T.me_Store_is_wish (Nk.ok_Store_is_wish T) (hr.mono (by decide)) T.b_z22 .nil j0d (j00 (pv 1) j01)) (fun _=>rfl))) (j03 j11) j0c)
   (j02 (j0z (i:=2) j1x.nd rfl (by first | exact Or.inl rfl | exact Or.inr rfl) (j0e (pv 0) T.cl_Keeper T.me_Keeper_target (Nk.ok_Keeper_target T) (hr.mono (by decide)) T.b_z18 .nil j0d (j00 (pv 1) j01)))
   (j02 (j0z (i:=3) j1x.nd rfl (by first | exact Or.inl rfl | exact Or.inr rfl) (j0e (pv 0) T.cl_Keeper T.me_Keeper_price_to (Nk.ok_Rule_price_to T) (hr.mono (by decide)) T.b_z20 .nil j0d (j00 (pv 1) (j00 (pv 2) j01))))
   (j02 (j1l (j0e (pv 0) T.cl_Keeper T.me_Keeper_learn (Nk.ok_Keeper_learn T) (hr.mono (by decide)) T.b_z33 .nil j0d (j00 (pv 1) j01)))
   (j02 (j0x (pv 0) (pv 2) rfl)
   (j02 (j0x (pv 0) (j0p j1a (j0l (pv 0) rfl) (pv 3)) rfl)
   (j03 (j0a (pv 3))))))))),?_⟩
  have g8:=hN.hi
  have gl:=(beh_names hN hw).2
  obtain⟨dx,wo,dw,st,q,ss,k⟩:=hB.ex
  have h1:=k.hr
  have h2:=k.hw
  walk_at "v"
  refine⟨wo,w,rfl,hw,fun H1 e1=>?_⟩
  have k1:=k.ext e1
  have h11:=k1.hr
  walk_at "v"
  refine⟨r,row,z,w,rfl,⟨_,_,_,_,_,_,k1⟩,hN,hw,fun t s2 H2 p2 o2 q2 e2=>?_⟩
  have k2:=k1.ext e2
  have h12:=k2.hr
  have l2:=p2.length_eq
  walk_at "v"
  refine⟨r,t,row,s2,z,w,rfl,⟨_,_,_,_,_,_,k2⟩,q2,by omega,p2.mem_iff.mpr (beh_mem w row),fun H3 e3=>?_⟩
  rw[beh_cost hN.nd p2]
  have k3:=k2.ext e3
  have h13:=k3.hr
  walk_at "v"
  refine⟨r,dx,wo,dw,st,q,row,ss,z,w,rfl,k3,hN.lo,by omega,fun q4 H4 h4 q4' b4=>?_⟩
  walk_at "v"
  refine j1p h4 T.cl_Keeper T.na_Keeper_standing (j0y rfl) fun H5 h5 b5=>?_
  walk_at "v"
  refine j1p h5 T.cl_Keeper T.na_Keeper_spent (j0y rfl) fun H6 h6 b6=>?_
  walk_at "v"
  have nw:wo≠r:=(j47 h13 k3.hw (by intro z;injection z with _ _ z;exact absurd (congrArg List.length z) (by show 4≠1;decide))).symm
  have nt:t≠r:=j47 (e3 _ _ q2) h13 (by intro z;cases z)
  have nq:q4≠r:=j47 q4' h4 (by intro z;cases z)
  have b56:=b5.tr b6
  have b46:=b4.tr b56
  exact hq H6 ⟨dx,wo,dw,t,q4,s2,h6,by rw[gl];exact b46 _ _ nw k3.hw,b46 _ _ nt (e3 _ _ q2),b56 _ _ nq q4',p2,o2⟩ (Ext.toBut ((e1.tr e2).tr e3) b46)
end Nk
namespace Nw
def j2w (a:Adr):Sp:=fun vs H Q _=>∃ (r p:Addr) (ns cs:List Int) (h t z:Int),vs=[.ref r,.ref p]∧WaysAt a H r ns h t z∧H p=some (.tup (cs.map V.int))∧cs.length=ns.length∧ns.length≤1000∧∀ l H',H l=none→H' l=some (.lst ((frw ns cs).map V.int))→Ext H H'→Q (.ref l) H'
theorem ok_Changer_charged (T:Txt K mg a):FnOk P w K mg base (CXU P w) 1 a.f_z2 a.d_z2 ["self","charges"] (j2w a):=by
 refine T.F_z2.okU sc_z2 (fun vs H Q E h=>?_) (fun cdv A outer s H vs Q E hr h=>?_)
 ·obtain⟨r,p,ns,cs,h,t,z,rfl,hB,hp,hl,hz,hq⟩:=h
  rfl
 ·obtain⟨r,p,ns,cs,h,t,z,rfl,hB,hp,hl,hz,hq⟩:=h
  have zc_Changer:=T.cl_Changer
  have zn_Changer_reckoned:=T.na_Changer_reckoned
  refine⟨_,(j03 (j0a (j1f (["number","charge"]:List Str) ([]:List Str) [] rfl ⟨rfl,by decide +kernel,by decide +kernel,by rfl,trivial⟩ (j9f rfl T.n_zip (j00 (j0l (pv 0) rfl) (j00 (pv 1) j01))) (fun _ _ _ _=>⟨(ja7 rfl (j1z (j0w (i:=0) (by show ((["number","charge"]:List Str)++([]:List Str)).Nodup;decide +kernel) rfl (by first | exact Or.inl rfl | exact Or.inr rfl)) (j1z (j0w (i:=1) (by show ((["number","charge"]:List Str)++([]:List Str)).Nodup;decide +kernel) rfl (by first | exact Or.inl rfl | exact Or.inr rfl)) j79))),(show PTs _ [] [] from trivial),(j0p j1a (pv 0) (pv 1))⟩)))),?_⟩
  obtain⟨dx,wo,dw,q,h1,h2,h3⟩:=hB.ex
  walk_at "v"
  refine⟨q,p,ns.map V.int,cs.map V.int,false,true,rfl,SqL.of h3,SqT.of hp,fun acc hn _ _ _ _=>jav V.int V.int V.int (·+·) (c:=false) (d:=true) (SqL.of h3) (SqT.of hp) hl.symm (by omega) hn (fun i x y H2 Y hx hy e hY=>?_) fun H2 e ha=>?_⟩
  ·walk_at "v"
   exact hY _ Ext.rfl'
  ·exact hq acc H2 hn ha e
end Nw
namespace Nw
def j3v (a:Adr):Sp:=fun vs H Q _=>∃ (r p:Addr) (ns cs:List Int) (h t z:Int),vs=[.ref r,.ref p]∧WaysAt a H r ns h t z∧H p=some (.tup (cs.map V.int))∧WOk ns h t∧ChOk ns cs∧∀ H',WaysAt a H' r (upW ns cs t) h t z→But r H H'→Q .non H'
theorem ok_Changer_learn (T:Txt K mg a):FnOk P w K mg base (CXU P w) 2 a.f_z13 a.d_z13 ["self","wish"] (j3v a):=by
 refine T.F_z13.okU jcu (fun vs H Q E h=>?_) (fun cdv A outer s H vs Q E hr h=>?_)
 ·obtain⟨r,p,ns,cs,h,t,z,rfl,hB,hp,hk,hc,hq⟩:=h
  rfl
 ·obtain⟨r,p,ns,cs,h,t,z,rfl,hB,hp,hk,hc,hq⟩:=h
  have zc_Both:=T.cl_Both
  have zn_Both_world:=T.na_Both_world
  have zc_Buyer:=T.cl_Buyer
  have zn_Buyer_world:=T.na_Buyer_world
  have zc_Changer:=T.cl_Changer
  have zn_Changer_reckoned:=T.na_Changer_reckoned
  have zn_Changer_world:=T.na_Changer_world
  have zc_Filler:=T.cl_Filler
  have zn_Filler_world:=T.na_Filler_world
  have zc_Front:=T.cl_Front
  have zn_Front_world:=T.na_Front_world
  have zc_Keeper:=T.cl_Keeper
  have zn_Keeper_world:=T.na_Keeper_world
  have zc_Ways:=T.cl_Ways
  have zn_Ways_toll:=T.na_Ways_toll
  refine⟨_,(j02 (j0z (i:=2) jcu.nd rfl (by first | exact Or.inl rfl | exact Or.inr rfl) (j0e (pv 0) T.cl_Changer T.me_Changer_charged (Nw.ok_Changer_charged T) (hr.mono (by decide)) T.b_z2 .nil j0d (j00 (pv 1) j01)))
   (j02 (j0z (i:=3) jcu.nd rfl (by first | exact Or.inl rfl | exact Or.inr rfl) (j0p j1a (j07 (cMin1 rfl) (by rfl) T.n_min PyProof.Rows.boot_min (j00 (pv 2) j01)) (j0l (j0l (pv 0) rfl) rfl)))
   (j03 (j0x (pv 0) (j1f (["number"]:List Str) (["far"]:List Str) [3] rfl ⟨rfl,by decide +kernel,by decide +kernel,by rfl,⟨⟨rfl,by first | exact Or.inl rfl | exact Or.inr rfl,by first | exact Or.inl rfl | exact Or.inr rfl⟩,trivial⟩⟩ (j8t (pv 2)) (fun _ _ _ _=>⟨(j0w (i:=0) (by show ((["number"]:List Str)++(["far"]:List Str)).Nodup;decide +kernel) rfl (by first | exact Or.inl rfl | exact Or.inr rfl)),(show PTs _ [] [] from trivial),(j07 (cMin2 rfl) (by rfl) T.n_min PyProof.Rows.boot_min (j00 (pv 0) (j00 (pv 1) j01)))⟩)) rfl)))),?_⟩
  have g1:=hk.lo
  have g8:=hk.hi
  have fl:=j5u hc.len
  have fne:=jb5 hc.len g1
  obtain⟨dx,wo,dw,q,h1,h2,h3⟩:=hB.ex
  walk_at "v"
  refine⟨r,p,ns,cs,h,t,z,rfl,hB,hp,hc.len,by omega,fun l H1 n1 q1 e1=>?_⟩
  have h11:=e1 _ _ h1
  have h21:=e1 _ _ h2
  walk_at "v"
  refine jei q1 fne ?_
  walk_at "v"
  refine⟨l,rfl,⟨_,SqL.of q1⟩,fun acc hn _ _ _ _=>jau V.int V.int (fun x=>min x (mn (frw ns cs)+t)) (SqL.of q1) (by omega) hn (fun i x H2 Y hx e hY=>?_) fun H2 e2 ha=>?_⟩
  ·walk_at "v"
   exact hY _ Ext.rfl'
  ·have h12:=e2 _ _ h11
   walk_at "v"
   refine j1p h12 T.cl_Changer T.na_Changer_reckoned (j0y rfl) fun H3 q3 b3=>?_
   have nw:wo≠r:=(j47 h1 h2 (by intro z;injection z with _ _ z;exact absurd (congrArg List.length z) (by show 4≠2;decide))).symm
   have na:acc≠r:=(j05 h11 hn).symm
   refine hq H3 ⟨dx,wo,dw,acc,q3,?_,b3 _ _ na ha⟩ (Ext.toBut (e1.tr e2) b3)
   rw[upW_len hc.len]
   exact b3 _ _ nw (e2 _ _ h21)
end Nw
namespace Nw
def j5v (a:Adr):Sp:=fun vs H Q _=>∃ (w dw p:Addr) (cs:List Int) (n b f t:Int),vs=[.ref w,.int b,.ref p,.int f]∧H w=some (.ins a.c_Ways dw [("many",.int n),("toll",.int t)])∧H p=some (.tup (cs.map V.int))∧0≤f∧f < cs.length∧Q (.int (prc cs b f t)) H
theorem ok_Ways_price (T:Txt K mg a):FnOk P w K mg base (CXU P w) 1 a.f_z59 a.d_z59 ["self","before","wish","after"] (j5v a):=by
 refine T.F_z59.okU sc_z59 (fun vs H Q E h=>?_) (fun cdv A outer s H vs Q E hr h=>?_)
 ·obtain⟨w,dw,p,cs,n,b,f,t,rfl,hw,hp,f0,f1,hq⟩:=h
  rfl
 ·obtain⟨w,dw,p,cs,n,b,f,t,rfl,hw,hp,f0,f1,hq⟩:=h
  have zc_Ways:=T.cl_Ways
  have zn_Ways_toll:=T.na_Ways_toll
  refine⟨_,(j03 (j0a (j2o (j0g (oEq hr) (pv 3) (pv 1) (j0m _)) (j14 oIx (pv 2) (pv 3) (fun _ _=>rfl)) (j0p j1a (j14 oIx (pv 2) (pv 3) (fun _ _=>rfl)) (j0l (pv 0) rfl))))),?_⟩
  unfold prc at hq
  have i1:=j21 (ns:=cs) f0 f1
  walk_at "v"
  refine iteD (fun c=>?_) (fun c=>?_)
  ·rw[if_pos c] at hq
   walk_at "v"
   refine j1d hp i1 ?_
   exact hq
  ·rw[if_neg c] at hq
   walk_at "v"
   refine j1d hp i1 ?_
   walk_at "v"
   exact hq
end Nw
namespace Nw
def sp_Rule_price_to (a:Adr):Sp:=fun vs H Q _=>∃ (r p:Addr) (ns cs:List Int) (h f t z:Int),vs=[.ref r,.ref p,.int f]∧WaysAt a H r ns h t z∧H p=some (.tup (cs.map V.int))∧0≤f∧f < cs.length∧Q (.int (prc cs h f t)) H
theorem ok_Rule_price_to (T:Txt K mg a):FnOk P w K mg base (CXU P w) 2 a.f_z20 a.d_z20 ["self","wish","after"] (sp_Rule_price_to a):=by
 refine T.F_z20.okU j9t (fun vs H Q E h=>?_) (fun cdv A outer s H vs Q E hr h=>?_)
 ·obtain⟨r,p,ns,cs,h,f,t,z,rfl,hB,hp,f0,f1,hq⟩:=h
  rfl
 ·obtain⟨r,p,ns,cs,h,f,t,z,rfl,hB,hp,f0,f1,hq⟩:=h
  have zc_Both:=T.cl_Both
  have zn_Both_world:=T.na_Both_world
  have zn_Both_standing:=T.na_Both_standing
  have zc_Buyer:=T.cl_Buyer
  have zn_Buyer_world:=T.na_Buyer_world
  have zn_Buyer_standing:=T.na_Buyer_standing
  have zc_Changer:=T.cl_Changer
  have zn_Changer_world:=T.na_Changer_world
  have zn_Changer_standing:=T.na_Changer_standing
  have zc_Filler:=T.cl_Filler
  have zn_Filler_world:=T.na_Filler_world
  have zn_Filler_standing:=T.na_Filler_standing
  have zc_Front:=T.cl_Front
  have zn_Front_world:=T.na_Front_world
  have zn_Front_standing:=T.na_Front_standing
  have zc_Keeper:=T.cl_Keeper
  have zn_Keeper_world:=T.na_Keeper_world
  have zn_Keeper_standing:=T.na_Keeper_standing
  refine⟨_,(j03 (j0a (j0e (j0l (pv 0) rfl) T.cl_Ways T.me_Ways_price (Nw.ok_Ways_price T) (hr.mono (by decide)) T.b_z59 .nil j0d (j00 (j0l (pv 0) rfl) (j00 (pv 1) (j00 (pv 2) j01)))))),?_⟩
  obtain⟨dx,wo,dw,q,h1,h2,h3⟩:=hB.ex
  walk_at "v"
  exact⟨wo,dw,p,cs,_,h,f,t,rfl,h2,hp,f0,f1,hq⟩
end Nw
namespace Nw
def j3a (a:Adr):Sp:=fun vs H Q _=>∃ (r p:Addr) (ns cs:List Int) (h t z:Int),vs=[.ref r,.ref p]∧WaysAt a H r ns h t z∧H p=some (.tup (cs.map V.int))∧WOk ns h t∧ChOk ns cs∧∀ H',Ext H H'→Q (.int (goW ns cs t h)) H'
theorem ok_Changer_target (T:Txt K mg a):FnOk P w K mg base (CXU P w) 2 a.f_z8 a.d_z8 ["self","wish"] (j3a a):=by
 refine T.F_z8.okU jhl (fun vs H Q E h=>?_) (fun cdv A outer s H vs Q E hr h=>?_)
 ·obtain⟨r,p,ns,cs,h,t,z,rfl,hB,hp,hk,hc,hq⟩:=h
  rfl
 ·obtain⟨r,p,ns,cs,h,t,z,rfl,hB,hp,hk,hc,hq⟩:=h
  have zc_Both:=T.cl_Both
  have zn_Both_world:=T.na_Both_world
  have zn_Both_standing:=T.na_Both_standing
  have zc_Buyer:=T.cl_Buyer
  have zn_Buyer_world:=T.na_Buyer_world
  have zn_Buyer_standing:=T.na_Buyer_standing
  have zc_Changer:=T.cl_Changer
  have zn_Changer_world:=T.na_Changer_world
  have zn_Changer_standing:=T.na_Changer_standing
  have zc_Filler:=T.cl_Filler
  have zn_Filler_world:=T.na_Filler_world
  have zn_Filler_standing:=T.na_Filler_standing
  have zc_Front:=T.cl_Front
  have zn_Front_world:=T.na_Front_world
  have zn_Front_standing:=T.na_Front_standing
  have zc_Keeper:=T.cl_Keeper
  have zn_Keeper_world:=T.na_Keeper_world
  have zn_Keeper_standing:=T.na_Keeper_standing
  have zc_Ways:=T.cl_Ways
  have zn_Ways_toll:=T.na_Ways_toll
  refine⟨_,(j02 (j0z (i:=2) jhl.nd rfl (by first | exact Or.inl rfl | exact Or.inr rfl) (j0e (pv 0) T.cl_Changer T.me_Changer_charged (Nw.ok_Changer_charged T) (hr.mono (by decide)) T.b_z2 .nil j0d (j00 (pv 1) j01)))
   (j02 (j0z (i:=3) jhl.nd rfl (by first | exact Or.inl rfl | exact Or.inr rfl) (j07 (cMin1 rfl) (by rfl) T.n_min PyProof.Rows.boot_min (j00 (pv 2) j01)))
   (j02 (j0u (j0g jfd (j14 oIx (pv 2) (j0l (pv 0) rfl) (fun _ _=>rfl)) (j0p j1a (pv 3) (j0l (j0l (pv 0) rfl) rfl)) (j0m _)) (j03 (j0a (pe_bm PySem.F.plainAttrs_list PySem.F.slot_list_index PySem.F.type_list_index jcm (pv 2) (j00 (pv 3) j01)))) j0c)
   (j03 (j0a (j0l (pv 0) rfl)))))),?_⟩
  unfold goW at hq
  have g1:=hk.lo
  have g8:=hk.hi
  have fl:=j5u hc.len
  have fne:=jb5 hc.len g1
  have i1:=j21 (ns:=frw ns cs) hk.h0 (by rw[fl];exact hk.h1)
  obtain⟨dx,wo,dw,q,h1,h2,h3⟩:=hB.ex
  walk_at "v"
  refine⟨r,p,ns,cs,h,t,z,rfl,hB,hp,hc.len,by omega,fun l H1 n1 q1 e1=>?_⟩
  have h11:=e1 _ _ h1
  have h21:=e1 _ _ h2
  walk_at "v"
  refine jei q1 fne ?_
  walk_at "v"
  refine j25 q1 i1 ?_
  walk_at "v"
  refine iteD (fun c=>?_) (fun c=>?_)
  ·rw[if_pos c] at hq
   walk_at "v"
   refine jej q1 (jcl fne).1 (by omega) ?_
   exact hq H1 e1
  ·rw[if_neg c] at hq
   walk_at "v"
   exact hq H1 e1
end Nw
def amt:V→Bool
 | .int i=>decide (0≤i) && decide (i≤1000000000000000000)
 | _=>false
def j6t:Sp:=fun vs H Q _=>∃ x k,vs=[x]∧HasK H x k∧Q (.bl (amt x)) H
theorem j1i (T:Txt K mg a):FnOk P w K mg base (CXU P w) 2 a.f_z71 a.d_z71 ["thing"] (j6t):=by
 refine T.F_z71.okU sc_z71 (fun vs H Q E h=>?_) (fun cdv A outer s H vs Q E hr h=>?_)
 ·obtain⟨x,k,rfl,hk,hq⟩:=h
  rfl
 ·obtain⟨x,k,rfl,hk,hq⟩:=h
  refine⟨_,(j03 (j0a (j1t (j0f (j10 T) (hr.mono (by decide)) (by rfl) T.m_z6 T.F_z6.kp T.b_z6 .nil j0d (j00 (pv 0) j01)) (j1y (j2r oLeW oLeW j08 (pv 0) (j0p j83 j08 j08)))))),?_⟩
  walk_at "v"
  refine⟨x,k,rfl,hk,?_⟩
  cases x with
  | int i =>
   cases (show k=.int from hk)
   walk_at "v"
   refine iteD (fun h=>?_) (fun h=>?_)
   ·walk_at "v"
    have e:amt (.int i)=decide (i≤1000000000000000000):=by show (decide (0≤i) && _)=_;rw[decide_eq_true h,Bool.true_and]
    rw[← e];exact hq
   ·walk_at "v"
    have e:amt (.int i)=false:=by show (decide (0≤i) && _)=_;rw[decide_eq_false h,Bool.false_and]
    rw[← e];exact hq
  | non=>cases (show k=.non from hk);(walk_at "v");exact hq
  | bl b=>cases (show k=.bl from hk);(walk_at "v");exact hq
  | str b=>cases (show k=.str from hk);(walk_at "v");exact hq
  | ref b =>
   have e:(k == .int)=false:=by rcases hk with⟨_,_,rfl⟩ | ⟨_,_,rfl⟩ | ⟨_,_,rfl⟩ <;> rfl
   rw[e];(walk_at "v");exact hq
  | _=>exact hk.elim
namespace Nw
def j4c (a:Adr):Sp:=fun vs H Q _=>∃ (w dw p:Addr) (cs:List Int) (t:Int),vs=[.ref w,.ref p]∧H w=some (.ins a.c_Ways dw [("many",.int cs.length),("toll",.int t)])∧H p=some (.tup (cs.map V.int))∧cs.length≤8∧(∀ c∈cs,0≤c∧c≤1000000000000000000)∧∀ H',Ext H H'→Q (.bl true) H'
theorem ok_Ways_is_wish (T:Txt K mg a):FnOk P w K mg base (CXU P w) 3 a.f_z36 a.d_z36 ["self","thing"] (j4c a):=by
 refine T.F_z36.okU sc_z36 (fun vs H Q E h=>?_) (fun cdv A outer s H vs Q E hr h=>?_)
 ·obtain⟨w,dw,p,cs,t,rfl,hw,hp,h8,ham,hq⟩:=h
  rfl
 ·obtain⟨w,dw,p,cs,t,rfl,hw,hp,h8,ham,hq⟩:=h
  have zc_Line:=T.cl_Line
  have zn_Line_many:=T.na_Line_many
  have zc_Store:=T.cl_Store
  have zn_Store_many:=T.na_Store_many
  have zc_Ways:=T.cl_Ways
  have zn_Ways_many:=T.na_Ways_many
  refine⟨_,(j02 (j0u (PW.pt (j34 (j0s (ptT (j07 j28 (by rfl) T.n_isinstance PyProof.Rows.boot_isinstance (j00 (pv 1) (j00 (j1b (v:=V.ty "tuple") (by rfl) T.n_tuple PyProof.Rows.boot_tuple rfl) j01))) (fun _=>rfl))) (j1k (j0g jd5 (j07 j1w (by rfl) T.n_len PySem.boot_len (j00 (pv 1) j01)) (j0l (pv 0) rfl) (j0m _))))) (j03 (j0a j30)) j0c)
   (j03 (j0a (j07 (cAll rfl) (by rfl) T.n_all PyProof.Rows.boot_all (j00 (j1f (["charge"]:List Str) ([]:List Str) [] rfl ⟨rfl,by decide +kernel,by decide +kernel,by rfl,trivial⟩ (j4y (pv 1)) (fun _ _ _ _=>⟨(j0w (i:=0) (by show ((["charge"]:List Str)++([]:List Str)).Nodup;decide +kernel) rfl (by first | exact Or.inl rfl | exact Or.inr rfl)),(show PTs _ [] [] from trivial),(j0f (j1i T) (hr.mono (by decide)) (by rfl) T.m_z71 T.F_z71.kp T.b_z71 .nil j0d (j00 (pv 0) j01))⟩)) j01))))),?_⟩
  walk_at "v"
  refine j86 (HasK.t hp) ?_
  walk_at "v"
  refine j0t hp ?_
  rw[List.length_map]
  walk_at "v"
  refine iteN (fun q=>(q rfl).elim) (fun _=>?_)
  walk_at "v"
  refine⟨p,rfl,⟨_,SqT.of hp⟩,fun acc hn _ _ _ _=>j55 V.int V.bl (fun _=>true) (SqT.of hp) (by omega) hn (fun i x H2 Y hx e hY=>?_) fun H2 e ha=>?_⟩
  ·walk_at "v"
   refine⟨.int x,.int,rfl,rfl,?_⟩
   have hm:=ham x (List.mem_of_getElem? hx)
   have hpl:amt (.int x)=true:=by show (decide (0≤x) && decide (x≤1000000000000000000))=true;rw[decide_eq_true hm.1,decide_eq_true hm.2];rfl
   rw[hpl]
   exact hY _ Ext.rfl'
  ·walk_at "v"
   refine jed ha ?_
   have ea:(cs.map fun _=>true).all id=true:=by rw[List.all_eq_true];intro x hx;obtain⟨_,_,rfl⟩:=List.mem_map.mp hx;rfl
   rw[ea]
   exact hq H2 e
end Nw
namespace Nw
def sp_Rule_pay (a:Adr):Sp:=fun vs H Q _=>∃ (r p:Addr) (ns cs:List Int) (h t z:Int),vs=[.ref r,.ref p]∧WaysAt a H r ns h t z∧H p=some (.tup (cs.map V.int))∧WOk ns h t∧ChOk ns cs∧∀ H',WaysAt a H' r (upW ns cs t) (goW ns cs t h) t (z+prc cs h (goW ns cs t h) t)→But r H H'→Q (.int (prc cs h (goW ns cs t h) t)) H'
theorem ok_Rule_pay (T:Txt K mg a):FnOk P w K mg base (CXU P w) 4 a.f_z79 a.d_z79 ["self","wish"] (sp_Rule_pay a):=by
 refine T.F_z79.okU j1x (fun vs H Q E h=>?_) (fun cdv A outer s H vs Q E hr h=>?_)
 ·obtain⟨r,p,ns,cs,h,t,z,rfl,hB,hp,hk,hc,hq⟩:=h
  rfl
 ·obtain⟨r,p,ns,cs,h,t,z,rfl,hB,hp,hk,hc,hq⟩:=h
  have zc_Both:=T.cl_Both
  have zn_Both_world:=T.na_Both_world
  have zn_Both_standing:=T.na_Both_standing
  have zn_Both_spent:=T.na_Both_spent
  have zc_Buyer:=T.cl_Buyer
  have zn_Buyer_world:=T.na_Buyer_world
  have zn_Buyer_standing:=T.na_Buyer_standing
  have zn_Buyer_spent:=T.na_Buyer_spent
  have zc_Changer:=T.cl_Changer
  have zn_Changer_world:=T.na_Changer_world
  have zn_Changer_standing:=T.na_Changer_standing
  have zn_Changer_spent:=T.na_Changer_spent
  have zc_Filler:=T.cl_Filler
  have zn_Filler_world:=T.na_Filler_world
  have zn_Filler_standing:=T.na_Filler_standing
  have zn_Filler_spent:=T.na_Filler_spent
  have zc_Front:=T.cl_Front
  have zn_Front_world:=T.na_Front_world
  have zn_Front_standing:=T.na_Front_standing
  have zn_Front_spent:=T.na_Front_spent
  have zc_Keeper:=T.cl_Keeper
  have zn_Keeper_world:=T.na_Keeper_world
  have zn_Keeper_standing:=T.na_Keeper_standing
  have zn_Keeper_spent:=T.na_Keeper_spent
  refine⟨_,(j02 (j0u (j0s (ptT (j0e (j0l (pv 0) rfl) T.cl_Ways T.me_Ways_is_wish (Nw.ok_Ways_is_wish T) (hr.mono (by decide)) T.b_z36 .nil j0d (j00 (pv 1) j01)) (fun _=>rfl))) (j03 j11) j0c)
   (j02 (j0z (i:=2) j1x.nd rfl (by first | exact Or.inl rfl | exact Or.inr rfl) (j0e (pv 0) T.cl_Changer T.me_Changer_target (Nw.ok_Changer_target T) (hr.mono (by decide)) T.b_z8 .nil j0d (j00 (pv 1) j01)))
   (j02 (j0z (i:=3) j1x.nd rfl (by first | exact Or.inl rfl | exact Or.inr rfl) (j0e (pv 0) T.cl_Changer T.me_Changer_price_to (Nw.ok_Rule_price_to T) (hr.mono (by decide)) T.b_z20 .nil j0d (j00 (pv 1) (j00 (pv 2) j01))))
   (j02 (j1l (j0e (pv 0) T.cl_Changer T.me_Changer_learn (Nw.ok_Changer_learn T) (hr.mono (by decide)) T.b_z13 .nil j0d (j00 (pv 1) j01)))
   (j02 (j0x (pv 0) (pv 2) rfl)
   (j02 (j0x (pv 0) (j0p j1a (j0l (pv 0) rfl) (pv 3)) rfl)
   (j03 (j0a (pv 3))))))))),?_⟩
  have g8:=hk.hi
  have gi:=goW_in hk hc
  have cl:=hc.len
  obtain⟨dx,wo,dw,q,h1,h2,h3⟩:=hB.ex
  walk_at "v"
  refine⟨wo,dw,p,cs,t,rfl,by rw[cl];exact h2,hp,by omega,hc.am,fun H1 e1=>?_⟩
  have h11:=e1 _ _ h1
  walk_at "v"
  refine⟨r,p,ns,cs,h,t,z,rfl,hB.ext e1,e1 _ _ hp,hk,hc,fun H2 e2=>?_⟩
  have x2:=e1.tr e2
  have h12:=x2 _ _ h1
  walk_at "v"
  refine⟨r,p,ns,cs,h,goW ns cs t h,t,z,rfl,hB.ext x2,x2 _ _ hp,gi.1,by omega,?_⟩
  walk_at "v"
  refine⟨r,p,ns,cs,h,t,z,rfl,hB.ext x2,x2 _ _ hp,hk,hc,fun H3 B3 b3=>?_⟩
  obtain⟨dx3,wo3,dw3,q3,y1,y2,y3⟩:=B3.ex
  walk_at "v"
  refine j1p y1 T.cl_Changer T.na_Changer_standing (j0y rfl) fun H4 q4 b4=>?_
  walk_at "v"
  refine j1p q4 T.cl_Changer T.na_Changer_spent (j0y rfl) fun H5 q5 b5=>?_
  walk_at "v"
  have nw:wo3≠r:=(j47 y1 y2 (by intro z;injection z with _ _ z;exact absurd (congrArg List.length z) (by show 4≠2;decide))).symm
  have nq:q3≠r:=j47 y3 y1 (by intro z;cases z)
  exact hq H5 ⟨dx3,wo3,dw3,q3,q5,b5 _ _ nw (b4 _ _ nw y2),b5 _ _ nq (b4 _ _ nq y3)⟩ (Ext.toBut x2 (b3.tr (b4.tr b5)))
end Nw
def j5w:Sp:=fun vs H Q _=>∃ x y,vs=[x,y]∧Q .non H
theorem j23 (T:Txt K mg a):FnOk P w K mg base (CXU P w) 1 a.f_z55 a.d_z55 ["self","wish"] (j5w):=by
 refine T.F_z55.okU sc_z55 (fun vs H Q E h=>?_) (fun cdv A outer s H vs Q E hr h=>?_)
 ·obtain⟨x,y,rfl,hq⟩:=h
  rfl
 ·obtain⟨x,y,rfl,hq⟩:=h
  refine⟨_,(j03 jdc),?_⟩
  walk_at "v"
  exact hq
namespace Nh
def prc (W b:Int) (h:V) (f:Int):V:=if b=1 then (if f=1 then .int 0 else .non) else (if f=1 then .int W else h)
def j5x (a:Adr):Sp:=fun vs H Q _=>∃ r dw W b h f,vs=[.ref r,.int b,h,.int f]∧H r=some (.ins a.c_Hire dw [("whole",.int W)])∧Q (prc W b h f) H
theorem ok_Hire_price (T:Txt K mg a):FnOk P w K mg base (CXU P w) 1 a.f_z53 a.d_z53 ["self","before","wish","after"] (j5x a):=by
 refine T.F_z53.okU sc_z53 (fun vs H Q E h=>?_) (fun cdv A outer s H vs Q E hr h=>?_)
 ·obtain⟨r,dw,W,b,h,f,rfl,hr0,hq⟩:=h
  rfl
 ·obtain⟨r,dw,W,b,h,f,rfl,hr0,hq⟩:=h
  have zc_Hire:=T.cl_Hire
  have zn_Hire_whole:=T.na_Hire_whole
  refine⟨_,(j02 (j0u (j0g (oEq hr) (pv 1) j08 (j0m _)) (j03 (j0a (j2o (j0g (oEq hr) (pv 3) j08 (j0m _)) j08 j82))) j0c)
   (j03 (j0a (j2o (j0g (oEq hr) (pv 3) j08 (j0m _)) (j0l (pv 0) rfl) (pv 2))))),?_⟩
  unfold prc at hq
  walk_at "v"
  refine iteD (fun h=>?_) (fun h=>?_)
  ·rw[if_pos h] at hq
   walk_at "v"
   refine iteD (fun h=>?_) (fun h=>?_)
   ·rw[if_pos h] at hq
    walk_at "v"
    exact hq
   ·rw[if_neg h] at hq
    walk_at "v"
    exact hq
  ·rw[if_neg h] at hq
   walk_at "v"
   refine iteD (fun h=>?_) (fun h=>?_)
   ·rw[if_pos h] at hq
    walk_at "v"
    exact hq
   ·rw[if_neg h] at hq
    walk_at "v"
    exact hq
end Nh
namespace Nh
def sp_Rule_price_to (a:Adr):Sp:=fun vs H Q _=>∃ r W st z h f,vs=[.ref r,.int h,.int f]∧BuyAt a H r W st z∧Q (prc W st (.int h) f) H
theorem ok_Rule_price_to (T:Txt K mg a):FnOk P w K mg base (CXU P w) 2 a.f_z20 a.d_z20 ["self","wish","after"] (sp_Rule_price_to a):=by
 refine T.F_z20.okU j9t (fun vs H Q E h=>?_) (fun cdv A outer s H vs Q E hr h=>?_)
 ·obtain⟨r,W,st,z,h,f,rfl,hB,hq⟩:=h
  rfl
 ·obtain⟨r,W,st,z,h,f,rfl,hB,hq⟩:=h
  have zc_Both:=T.cl_Both
  have zn_Both_world:=T.na_Both_world
  have zn_Both_standing:=T.na_Both_standing
  have zc_Buyer:=T.cl_Buyer
  have zn_Buyer_world:=T.na_Buyer_world
  have zn_Buyer_standing:=T.na_Buyer_standing
  have zc_Changer:=T.cl_Changer
  have zn_Changer_world:=T.na_Changer_world
  have zn_Changer_standing:=T.na_Changer_standing
  have zc_Filler:=T.cl_Filler
  have zn_Filler_world:=T.na_Filler_world
  have zn_Filler_standing:=T.na_Filler_standing
  have zc_Front:=T.cl_Front
  have zn_Front_world:=T.na_Front_world
  have zn_Front_standing:=T.na_Front_standing
  have zc_Keeper:=T.cl_Keeper
  have zn_Keeper_world:=T.na_Keeper_world
  have zn_Keeper_standing:=T.na_Keeper_standing
  refine⟨_,(j03 (j0a (j0e (j0l (pv 0) rfl) T.cl_Hire T.me_Hire_price (Nh.ok_Hire_price T) (hr.mono (by decide)) T.b_z53 .nil j0d (j00 (j0l (pv 0) rfl) (j00 (pv 1) (j00 (pv 2) j01)))))),?_⟩
  obtain⟨dx,wo,dw,h2,h3⟩:=hB.ex
  walk_at "v"
  exact⟨wo,dw,W,st,.int h,f,rfl,h3,hq⟩
end Nh
namespace Nh
def tgt (W st z h:Int):Int:=if st=1 then 1 else if W≤z+h then 1 else 0
def j4d (a:Adr):Sp:=fun vs H Q _=>∃ r W st z h,vs=[.ref r,.int h]∧BuyAt a H r W st z∧Q (.int (tgt W st z h)) H
theorem ok_Buyer_target (T:Txt K mg a):FnOk P w K mg base (CXU P w) 1 a.f_z26 a.d_z26 ["self","wish"] (j4d a):=by
 refine T.F_z26.okU sc_z26 (fun vs H Q E h=>?_) (fun cdv A outer s H vs Q E hr h=>?_)
 ·obtain⟨r,W,st,z,h,rfl,hB,hq⟩:=h
  rfl
 ·obtain⟨r,W,st,z,h,rfl,hB,hq⟩:=h
  have zc_Both:=T.cl_Both
  have zn_Both_world:=T.na_Both_world
  have zn_Both_standing:=T.na_Both_standing
  have zn_Both_spent:=T.na_Both_spent
  have zc_Buyer:=T.cl_Buyer
  have zn_Buyer_world:=T.na_Buyer_world
  have zn_Buyer_standing:=T.na_Buyer_standing
  have zn_Buyer_spent:=T.na_Buyer_spent
  have zc_Changer:=T.cl_Changer
  have zn_Changer_world:=T.na_Changer_world
  have zn_Changer_standing:=T.na_Changer_standing
  have zn_Changer_spent:=T.na_Changer_spent
  have zc_Filler:=T.cl_Filler
  have zn_Filler_world:=T.na_Filler_world
  have zn_Filler_standing:=T.na_Filler_standing
  have zn_Filler_spent:=T.na_Filler_spent
  have zc_Front:=T.cl_Front
  have zn_Front_world:=T.na_Front_world
  have zn_Front_standing:=T.na_Front_standing
  have zn_Front_spent:=T.na_Front_spent
  have zc_Hire:=T.cl_Hire
  have zn_Hire_whole:=T.na_Hire_whole
  have zc_Keeper:=T.cl_Keeper
  have zn_Keeper_world:=T.na_Keeper_world
  have zn_Keeper_standing:=T.na_Keeper_standing
  have zn_Keeper_spent:=T.na_Keeper_spent
  refine⟨_,(j02 (j0u (PW.pt (j34 (j0g (oEq hr) (j0l (pv 0) rfl) j08 (j0m _)) (j1k (j0g op_ge (j0p j1a (j0l (pv 0) rfl) (pv 1)) (j0l (j0l (pv 0) rfl) rfl) (j0m _))))) (j03 (j0a j08)) j0c)
   (j03 (j0a j08))),?_⟩
  unfold tgt at hq
  obtain⟨dx,wo,dw,h1,h2⟩:=hB.ex
  walk_at "v"
  walk_at "v"
  refine iteD (fun h=>?_) (fun h=>?_)
  ·rw[if_pos h] at hq
   walk_at "v"
   exact hq
  ·rw[if_neg h] at hq
   walk_at "v"
   walk_at "v"
   walk_at "v"
   refine iteD (fun h=>?_) (fun h=>?_)
   ·rw[if_pos h] at hq
    walk_at "v"
    exact hq
   ·rw[if_neg h] at hq
    walk_at "v"
    exact hq
end Nh
namespace Nh
def j4e:Sp:=fun vs H Q _=>∃ r x k,vs=[.ref r,x]∧HasK H x k∧Q (.bl (amt x)) H
theorem ok_Hire_is_wish (T:Txt K mg a):FnOk P w K mg base (CXU P w) 3 a.f_z32 a.d_z32 ["self","thing"] (j4e):=by
 refine T.F_z32.okU sc_z32 (fun vs H Q E h=>?_) (fun cdv A outer s H vs Q E hr h=>?_)
 ·obtain⟨r,x,k,rfl,hk,hq⟩:=h
  rfl
 ·obtain⟨r,x,k,rfl,hk,hq⟩:=h
  refine⟨_,(j03 (j0a (j0f (j1i T) (hr.mono (by decide)) (by rfl) T.m_z71 T.F_z71.kp T.b_z71 .nil j0d (j00 (pv 1) j01)))),?_⟩
  walk_at "v"
  exact⟨x,k,rfl,hk,hq⟩
end Nh
namespace Nh
def cst (W st z h:Int):Int:=if st=1 then 0 else if W≤z+h then W else h
theorem prc_cst (W st z h:Int):prc W st (.int h) (tgt W st z h)=.int (cst W st z h):=by
 unfold prc tgt cst
 by_cases h1:st=1
 ·rw[if_pos h1,if_pos h1,if_pos h1,if_pos rfl]
 ·rw[if_neg h1,if_neg h1,if_neg h1]
  by_cases h2:W≤z+h
  ·rw[if_pos h2,if_pos h2,if_pos rfl]
  ·rw[if_neg h2,if_neg h2,if_neg (by decide)]
def sp_Rule_pay (a:Adr):Sp:=fun vs H Q _=>∃ r W st z h,vs=[.ref r,.int h]∧BuyAt a H r W st z∧0≤h∧h≤1000000000000000000 ∧
 ∀ H',BuyAt a H' r W (tgt W st z h) (z+cst W st z h)→But r H H'→Q (.int (cst W st z h)) H'
theorem ok_Rule_pay (T:Txt K mg a):FnOk P w K mg base (CXU P w) 4 a.f_z79 a.d_z79 ["self","wish"] (sp_Rule_pay a):=by
 refine T.F_z79.okU j1x (fun vs H Q E h=>?_) (fun cdv A outer s H vs Q E hr h=>?_)
 ·obtain⟨r,W,st,z,h,rfl,hB,h0,h1,hq⟩:=h
  rfl
 ·obtain⟨r,W,st,z,h,rfl,hB,h0,h1,hq⟩:=h
  have zc_Both:=T.cl_Both
  have zn_Both_world:=T.na_Both_world
  have zn_Both_standing:=T.na_Both_standing
  have zn_Both_spent:=T.na_Both_spent
  have zc_Buyer:=T.cl_Buyer
  have zn_Buyer_world:=T.na_Buyer_world
  have zn_Buyer_standing:=T.na_Buyer_standing
  have zn_Buyer_spent:=T.na_Buyer_spent
  have zc_Changer:=T.cl_Changer
  have zn_Changer_world:=T.na_Changer_world
  have zn_Changer_standing:=T.na_Changer_standing
  have zn_Changer_spent:=T.na_Changer_spent
  have zc_Filler:=T.cl_Filler
  have zn_Filler_world:=T.na_Filler_world
  have zn_Filler_standing:=T.na_Filler_standing
  have zn_Filler_spent:=T.na_Filler_spent
  have zc_Front:=T.cl_Front
  have zn_Front_world:=T.na_Front_world
  have zn_Front_standing:=T.na_Front_standing
  have zn_Front_spent:=T.na_Front_spent
  have zc_Keeper:=T.cl_Keeper
  have zn_Keeper_world:=T.na_Keeper_world
  have zn_Keeper_standing:=T.na_Keeper_standing
  have zn_Keeper_spent:=T.na_Keeper_spent
  refine⟨_,(j02 (j0u (j0s (ptT (j0e (j0l (pv 0) rfl) T.cl_Hire T.me_Hire_is_wish (Nh.ok_Hire_is_wish T) (hr.mono (by decide)) T.b_z32 .nil j0d (j00 (pv 1) j01)) (fun _=>rfl))) (j03 j11) j0c)
   (j02 (j0z (i:=2) j1x.nd rfl (by first | exact Or.inl rfl | exact Or.inr rfl) (j0e (pv 0) T.cl_Buyer T.me_Buyer_target (Nh.ok_Buyer_target T) (hr.mono (by decide)) T.b_z26 .nil j0d (j00 (pv 1) j01)))
   (j02 (j0z (i:=3) j1x.nd rfl (by first | exact Or.inl rfl | exact Or.inr rfl) (j0e (pv 0) T.cl_Buyer T.me_Buyer_price_to (Nh.ok_Rule_price_to T) (hr.mono (by decide)) T.b_z20 .nil j0d (j00 (pv 1) (j00 (pv 2) j01))))
   (j02 (j1l (j0e (pv 0) T.cl_Buyer T.me_Buyer_learn (j23 T) (hr.mono (by decide)) T.b_z55 .nil j0d (j00 (pv 1) j01)))
   (j02 (j0x (pv 0) (pv 2) rfl)
   (j02 (j0x (pv 0) (j0p j1a (j0l (pv 0) rfl) (pv 3)) rfl)
   (j03 (j0a (pv 3))))))))),?_⟩
  obtain⟨dx,wo,dw,h2,h3⟩:=hB.ex
  walk_at "v"
  walk_at "v"
  refine⟨wo,.int h,.int,rfl,rfl,?_⟩
  have e:amt (.int h)=true:=by show (decide (0≤h) && decide _)=true;rw[decide_eq_true (by omega),decide_eq_true (by omega)];rfl
  rw[e]
  walk_at "v"
  refine⟨r,W,st,z,h,rfl,hB,?_⟩
  walk_at "v"
  refine⟨r,W,st,z,h,_,rfl,hB,?_⟩
  rw[prc_cst]
  walk_at "v"
  refine⟨_,_,rfl,?_⟩
  walk_at "v"
  refine j1p h2 T.cl_Buyer T.na_Buyer_standing (j0y rfl) fun H1 q1 b1=>?_
  walk_at "v"
  walk_at "v"
  refine j1p q1 T.cl_Buyer T.na_Buyer_spent (j0y rfl) fun H2 q2 b2=>?_
  walk_at "v"
  have nw:wo≠r:=(j47 h2 h3 (by intro z;injection z with _ _ z;exact absurd (congrArg List.length z) (by show 3≠1;decide))).symm
  exact hq H2 ⟨dx,wo,dw,q2,b2 _ _ nw (b1 _ _ nw h3)⟩ (But.tr b1 b2)
end Nh
namespace Ns
def j5y:Sp:=fun vs H Q _=>∃ (p q:Addr) (ss qs:List Str) (i:Nat),vs=[.ref p,.int (i:Nat),.ref q]∧H p=some (.tup (ss.map V.str))∧H q=some (.tup (qs.map V.str))∧i < ss.length∧ss.length≤1000∧qs.length≤1000∧(∀ x∈ss,x∈qs)∧∀ H',Ext H H'→Q (.int (ovt ss qs i:Nat)) H'
theorem ok_overtakers (T:Txt K mg a):FnOk P w K mg base (CXU P w) 1 a.f_z62 a.d_z62 ["order","at","other"] (j5y):=by
 refine T.F_z62.okU jf0 (fun vs H Q E h=>?_) (fun cdv A outer s H vs Q E hr h=>?_)
 ·obtain⟨p,q,ss,qs,i,rfl,hp,hq',hi,hl,hl2,hs,hq⟩:=h
  rfl
 ·obtain⟨p,q,ss,qs,i,rfl,hp,hq',hi,hl,hl2,hs,hq⟩:=h
  refine⟨_,(j02 (j0z (i:=3) jf0.nd rfl (by first | exact Or.inl rfl | exact Or.inr rfl) (jh0 PySem.F.plainAttrs_tuple PySem.F.slot_tuple_index PySem.F.type_tuple_index j56 (pv 2) (j00 (j14 oIx (pv 0) (pv 1) (fun _ _=>rfl)) j01)))
   (j03 (j0a (j07 j1w (by rfl) T.n_len PySem.boot_len (j00 (j1f (["thing"]:List Str) (["other","place"]:List Str) [2,3] rfl ⟨rfl,by decide +kernel,by decide +kernel,by rfl,⟨⟨rfl,by first | exact Or.inl rfl | exact Or.inr rfl,by first | exact Or.inl rfl | exact Or.inr rfl⟩,⟨rfl,by first | exact Or.inl rfl | exact Or.inr rfl,by first | exact Or.inl rfl | exact Or.inr rfl⟩,trivial⟩⟩ (j4y (j1u oSl (pv 0) (j27 (j0p j1a (pv 1) j08)) j31)) (fun _ _ _ _=>⟨(j0w (i:=0) (by show ((["thing"]:List Str)++(["other","place"]:List Str)).Nodup;decide +kernel) rfl (by first | exact Or.inl rfl | exact Or.inr rfl)),(show PTs _ [_] [_] from⟨(j0g jd6 (jh0 PySem.F.plainAttrs_tuple PySem.F.slot_tuple_index PySem.F.type_tuple_index j56 (pv 1) (j00 (pv 0) j01)) (pv 2) (j0m _)),trivial⟩),(pv 0)⟩)) j01))))),?_⟩
  have gi:ss.getD i ⟨#[]⟩∈ss:=by rw[List.getD_eq_getElem?_getD,List.getElem?_eq_getElem hi];exact List.getElem_mem hi
  walk_at "v"
  refine j1d hp (v:=.str (ss.getD i ⟨#[]⟩)) (by have:=j6q (ss:=ss) (k:=(i:Nat)) (by omega) (by omega);rwa [Int.toNat_natCast] at this) ?_
  walk_at "v"
  refine j6o hq' (hs _ gi) (by omega) ?_
  walk_at "v"
  refine jgt hp (by rintro⟨z,_⟩;rw[show ((i:Int)+1)=((i+1:Nat):Int) by omega,HT.sIx_nat,List.length_map] at z;omega) fun l H1 n1 q1 e1=>?_
  have ec:cutV (ss.map V.str) (some ((i:Int)+1)) none=(ss.drop (i+1)).map V.str:=by
   unfold cutV
   rw[show ((i:Int)+1)=((i+1:Nat):Int) by omega,HT.sIx_nat,HT.sIx_none,List.length_map,Nat.min_eq_left (by omega),← List.map_drop,List.take_of_length_le (by rw[List.length_map,List.length_drop];exact Nat.le_refl _)]
  rw[ec] at q1
  have hq1:=e1 _ _ hq'
  refine⟨l,rfl,⟨_,SqT.of q1⟩,fun acc hn _ _ _ _=>j29 (SqT.of q1) (by rw[List.length_map,List.length_drop];omega) hn (fun j ys _=>ys=(((ss.drop (i+1)).take j).filter fun t=>decide (qs.idxOf t < qs.idxOf (ss.getD i ⟨#[]⟩))).map V.str) (by simp) (fun _ _ _ _ _ h=>h) (fun j ys H' _ h=>by rw[h,List.length_map];exact Nat.le_trans (List.length_filter_le _ _) (by rw[List.length_take];omega)) ?_ ?_⟩
  ·rintro j y ys H2 hy e rfl Y N hY hN
   obtain⟨y,ey,rfl⟩:=j7z hy
   have hq2:=e _ _ hq1
   have hyq:y∈qs:=hs y (List.mem_of_mem_drop (List.mem_of_getElem? ey))
   walk_at "v"
   refine j6o hq2 hyq (by omega) ?_
   walk_at "v"
   have et:((ss.drop (i+1)).take (j+1))=((ss.drop (i+1)).take j)++[y]:=by rw[List.take_add_one,ey];rfl
   refine iteD (fun h=>?_) (fun h=>?_)
   ·walk_at "v"
    refine hY _ _ Ext.rfl' ?_
    rw[et,List.filter_append,List.filter_cons,if_pos (decide_eq_true (by omega)),List.map_append]
    rfl
   ·walk_at "v"
    refine hN _ Ext.rfl' ?_
    rw[et,List.filter_append,List.filter_cons,if_neg (fun z=>h (by have:=of_decide_eq_true z;omega)),List.filter_nil,List.append_nil]
  ·rintro ys H2 e ha rfl
   rw[List.length_map,List.take_of_length_le (Nat.le_refl _)] at ha
   walk_at "v"
   refine j3n ha ?_
   rw[List.length_map]
   exact hq H2 (e1.tr e)
end Ns
namespace Ns
def j4f:Sp:=fun vs H Q _=>∃ (p q:Addr) (ss qs:List Str),vs=[.ref p,.ref q]∧H p=some (.tup (ss.map V.str))∧H q=some (.tup (qs.map V.str))∧ss.length≤1000∧qs.length≤1000∧(∀ x∈ss,x∈qs)∧∀ H',Ext H H'→Q (.int (trn ss qs)) H'
theorem ok_turned_pairs (T:Txt K mg a):FnOk P w K mg base (CXU P w) 2 a.f_z40 a.d_z40 ["before","after"] (j4f):=by
 refine T.F_z40.okU sc_z40 (fun vs H Q E h=>?_) (fun cdv A outer s H vs Q E hr h=>?_)
 ·obtain⟨p,q,ss,qs,rfl,hp,hq',hl,hl2,hs,hq⟩:=h
  rfl
 ·obtain⟨p,q,ss,qs,rfl,hp,hq',hl,hl2,hs,hq⟩:=h
  refine⟨_,(j03 (j0a (j07 (cSum rfl) (by rfl) T.n_sum PyProof.Rows.boot_sum (j00 (j1f (["at"]:List Str) (["before","after"]:List Str) [0,1] rfl ⟨rfl,by decide +kernel,by decide +kernel,by rfl,⟨⟨rfl,by first | exact Or.inl rfl | exact Or.inr rfl,by first | exact Or.inl rfl | exact Or.inr rfl⟩,⟨rfl,by first | exact Or.inl rfl | exact Or.inr rfl,by first | exact Or.inl rfl | exact Or.inr rfl⟩,trivial⟩⟩ (j1m rfl T.n_range (j00 (j07 j1w (by rfl) T.n_len PySem.boot_len (j00 (pv 0) j01)) j01)) (fun _ _ _ _=>⟨(j0w (i:=0) (by show ((["at"]:List Str)++(["before","after"]:List Str)).Nodup;decide +kernel) rfl (by first | exact Or.inl rfl | exact Or.inr rfl)),(show PTs _ [] [] from trivial),(j0f (Ns.ok_overtakers T) (hr.mono (by decide)) (by rfl) T.m_z62 T.F_z62.kp T.b_z62 .nil j0d (j00 (pv 1) (j00 (pv 0) (j00 (pv 2) j01))))⟩)) j01)))),?_⟩
  walk_at "v"
  refine j0t hp ?_
  rw[List.length_map]
  refine⟨_,rfl,by omega,by omega,fun acc hn _ _ _ _=>j7s V.int (fun (i:Nat)=>(ovt ss qs i:Int)) (by omega) hn (fun i H3 Y hi e hY=>?_) fun H2 e2 ha=>?_⟩
  ·walk_at "v"
   exact⟨p,q,ss,qs,i,rfl,e _ _ hp,e _ _ hq',by omega,hl,hl2,hs,fun H4 e4=>hY H4 e4⟩
  ·walk_at "v"
   refine r_sum ha ?_
   rw[Int.toNat_natCast]
   exact hq H2 e2
end Ns
namespace Ns
def j5a:Sp:=fun vs H Q _=>∃ (r p q:Addr) (ss qs:List Str) (w:Str),vs=[.ref r,.ref p,.str w,.ref q]∧H p=some (.tup (ss.map V.str))∧H q=some (.tup (qs.map V.str))∧ss.length≤1000∧qs.length≤1000∧(∀ x∈ss,x∈qs)∧w∈qs∧∀ H',Ext H H'→Q (.int (trn ss qs+(qs.idxOf w:Nat)+1)) H'
theorem ok_Shelf_price (T:Txt K mg a):FnOk P w K mg base (CXU P w) 3 a.f_z46 a.d_z46 ["self","before","wish","after"] (j5a):=by
 refine T.F_z46.okU sc_z46 (fun vs H Q E h=>?_) (fun cdv A outer s H vs Q E hr h=>?_)
 ·obtain⟨r,p,q,ss,qs,w,rfl,hp,hq',hl,hl2,hs,hw,hq⟩:=h
  rfl
 ·obtain⟨r,p,q,ss,qs,w,rfl,hp,hq',hl,hl2,hs,hw,hq⟩:=h
  refine⟨_,(j03 (j0a (j0p j1a (j0p j1a (j0f (Ns.ok_turned_pairs T) (hr.mono (by decide)) (by rfl) T.m_z40 T.F_z40.kp T.b_z40 .nil j0d (j00 (pv 1) (j00 (pv 3) j01))) (jh0 PySem.F.plainAttrs_tuple PySem.F.slot_tuple_index PySem.F.type_tuple_index j56 (pv 3) (j00 (pv 2) j01))) j08))),?_⟩
  walk_at "v"
  refine⟨p,q,ss,qs,rfl,hp,hq',hl,hl2,hs,fun H1 e1=>?_⟩
  have hq1:=e1 _ _ hq'
  walk_at "v"
  refine j6o hq1 hw (by omega) ?_
  walk_at "v"
  exact hq H1 e1
end Ns
namespace Ns
def sp_Rule_price_to (a:Adr):Sp:=fun vs H Q _=>∃ (r q:Addr) (ss ts qs:List Str) (z:Int) (w:Str),vs=[.ref r,.str w,.ref q]∧ShelfAt a H r ss ts z∧H q=some (.tup (qs.map V.str))∧ss.length≤1000∧qs.length≤1000∧(∀ x∈ss,x∈qs)∧w∈qs∧∀ H',Ext H H'→Q (.int (trn ss qs+(qs.idxOf w:Nat)+1)) H'
theorem ok_Rule_price_to (T:Txt K mg a):FnOk P w K mg base (CXU P w) 4 a.f_z20 a.d_z20 ["self","wish","after"] (sp_Rule_price_to a):=by
 refine T.F_z20.okU j9t (fun vs H Q E h=>?_) (fun cdv A outer s H vs Q E hr h=>?_)
 ·obtain⟨r,q,ss,ts,qs,z,w,rfl,hB,hq',hl,hl2,hs,hw,hq⟩:=h
  rfl
 ·obtain⟨r,q,ss,ts,qs,z,w,rfl,hB,hq',hl,hl2,hs,hw,hq⟩:=h
  have zc_Both:=T.cl_Both
  have zn_Both_world:=T.na_Both_world
  have zn_Both_standing:=T.na_Both_standing
  have zc_Buyer:=T.cl_Buyer
  have zn_Buyer_world:=T.na_Buyer_world
  have zn_Buyer_standing:=T.na_Buyer_standing
  have zc_Changer:=T.cl_Changer
  have zn_Changer_world:=T.na_Changer_world
  have zn_Changer_standing:=T.na_Changer_standing
  have zc_Filler:=T.cl_Filler
  have zn_Filler_world:=T.na_Filler_world
  have zn_Filler_standing:=T.na_Filler_standing
  have zc_Front:=T.cl_Front
  have zn_Front_world:=T.na_Front_world
  have zn_Front_standing:=T.na_Front_standing
  have zc_Keeper:=T.cl_Keeper
  have zn_Keeper_world:=T.na_Keeper_world
  have zn_Keeper_standing:=T.na_Keeper_standing
  refine⟨_,(j03 (j0a (j0e (j0l (pv 0) rfl) T.cl_Shelf T.me_Shelf_price (Ns.ok_Shelf_price T) (hr.mono (by decide)) T.b_z46 .nil j0d (j00 (j0l (pv 0) rfl) (j00 (pv 1) (j00 (pv 2) j01)))))),?_⟩
  obtain⟨dx,wo,dw,st,tp,h1,h2,h3,h4⟩:=hB.ex
  walk_at "v"
  exact⟨wo,st,q,ss,qs,w,rfl,h3,hq',hl,hl2,hs,hw,hq⟩
end Ns
namespace Ns
def j4g (a:Adr):Sp:=fun vs H Q _=>∃ (r:Addr) (ss ts:List Str) (z:Int) (w:Str),vs=[.ref r,.str w]∧ShelfAt a H r ss ts z∧ss.length≤1000∧∀ q H',H' q=some (.tup ((frt w ss).map V.str))→Ext H H'→Q (.ref q) H'
theorem ok_Front_target (T:Txt K mg a):FnOk P w K mg base (CXU P w) 1 a.f_z31 a.d_z31 ["self","wish"] (j4g a):=by
 refine T.F_z31.okU sc_z31 (fun vs H Q E h=>?_) (fun cdv A outer s H vs Q E hr h=>?_)
 ·obtain⟨r,ss,ts,z,w,rfl,hB,hl,hq⟩:=h
  rfl
 ·obtain⟨r,ss,ts,z,w,rfl,hB,hl,hq⟩:=h
  have zc_Both:=T.cl_Both
  have zn_Both_standing:=T.na_Both_standing
  have zc_Buyer:=T.cl_Buyer
  have zn_Buyer_standing:=T.na_Buyer_standing
  have zc_Changer:=T.cl_Changer
  have zn_Changer_standing:=T.na_Changer_standing
  have zc_Filler:=T.cl_Filler
  have zn_Filler_standing:=T.na_Filler_standing
  have zc_Front:=T.cl_Front
  have zn_Front_standing:=T.na_Front_standing
  have zc_Keeper:=T.cl_Keeper
  have zn_Keeper_standing:=T.na_Keeper_standing
  refine⟨_,(j03 (j0a (j0p j1a (j1h (j00 (pv 1) j01)) (j0r j3i (by rfl) T.n_tuple PyProof.Rows.boot_tuple (j00 (j1f (["thing"]:List Str) (["wish"]:List Str) [1] rfl ⟨rfl,by decide +kernel,by decide +kernel,by rfl,⟨⟨rfl,by first | exact Or.inl rfl | exact Or.inr rfl,by first | exact Or.inl rfl | exact Or.inr rfl⟩,trivial⟩⟩ (j4y (j0l (pv 0) rfl)) (fun _ _ _ _=>⟨(j0w (i:=0) (by show ((["thing"]:List Str)++(["wish"]:List Str)).Nodup;decide +kernel) rfl (by first | exact Or.inl rfl | exact Or.inr rfl)),(show PTs _ [_] [_] from⟨(j0g (oNe hr) (pv 0) (pv 1) (j0m _)),trivial⟩),(pv 0)⟩)) j01))))),?_⟩
  obtain⟨dx,wo,dw,st,tp,h1,h2,h3,h4⟩:=hB.ex
  walk_at "v"
  intro p1 H1 n1 q1 e1
  have h11:=e1 _ _ h1
  have h31:=e1 _ _ h3
  walk_at "v"
  refine⟨st,rfl,⟨_,SqT.of h31⟩,fun acc hn _ _ _ _=>j29 (SqT.of h31) (by rw[List.length_map];omega) hn (fun j ys _=>ys=((ss.take j).filter fun t=>!decide (t=w)).map V.str) (by simp) (fun _ _ _ _ _ h=>h) (fun j ys H' _ h=>by rw[h,List.length_map];exact Nat.le_trans (List.length_filter_le _ _) (by rw[List.length_take];omega)) ?_ ?_⟩
  ·rintro j y ys H2 hy e rfl Y N hY hN
   obtain⟨y,ey,rfl⟩:=j7z hy
   have et:ss.take (j+1)=ss.take j++[y]:=by rw[List.take_add_one,ey];rfl
   walk_at "v"
   refine jek ?_
   walk_at "v"
   refine iteN (fun h=>?_) (fun h=>?_)
   ·walk_at "v"
    refine hY _ _ Ext.rfl' ?_
    rw[et,List.filter_append,List.filter_cons,if_pos (by simp[h]),List.map_append]
    rfl
   ·walk_at "v"
    refine hN _ Ext.rfl' ?_
    rw[et,List.filter_append,List.filter_cons,if_neg (by simp[h]),List.filter_nil,List.append_nil]
  ·rintro ys H2 e2 ha rfl
   rw[List.length_map,List.take_of_length_le (Nat.le_refl _)] at ha
   walk_at "v"
   refine j17 ha fun t3 H3 n3 q3 e3=>?_
   have zl:=List.length_filter_le (fun t=>!decide (t=w)) ss
   walk_at "v"
   refine j7v (e3 _ _ (e2 _ _ q1)) q3 (by simp only[List.length_map,List.length_cons,List.length_nil];omega) fun q4 H4 h4' e4=>?_
   exact hq q4 H4 h4' (((e1.tr e2).tr e3).tr e4)
end Ns
namespace Ns
def j3w (a:Adr):Sp:=fun vs H Q _=>∃ (w dw tp:Addr) (ts:List Str) (x:Str),vs=[.ref w,.str x]∧H w=some (.ins a.c_Shelf dw [("things",.ref tp)])∧H tp=some (.tup (ts.map V.str))∧nmS x=true∧x∈ts∧∀ H',Ext H H'→Q (.bl true) H'
theorem ok_Shelf_is_wish (T:Txt K mg a):FnOk P w K mg base (CXU P w) 2 a.f_z21 a.d_z21 ["self","thing"] (j3w a):=by
 refine T.F_z21.okU sc_z21 (fun vs H Q E h=>?_) (fun cdv A outer s H vs Q E hr h=>?_)
 ·obtain⟨w,dw,tp,ts,x,rfl,hw,ht,hx,hm,hq⟩:=h
  rfl
 ·obtain⟨w,dw,tp,ts,x,rfl,hw,ht,hx,hm,hq⟩:=h
  have zc_Shelf:=T.cl_Shelf
  have zn_Shelf_things:=T.na_Shelf_things
  refine⟨_,(j03 (j0a (j1t (j0f (j3t T) (hr.mono (by decide)) (by rfl) T.m_z86 T.F_z86.kp T.b_z86 .nil j0d (j00 (pv 1) j01)) (j1y (j1n oIn (pv 1) (j0l (pv 0) rfl) (by with_unfolding_all rfl)))))),?_⟩
  walk_at "v"
  refine⟨.str x,.str,rfl,rfl,fun z ez=>by cases ez;exact⟨j7x hx,by have:=j9x hx;omega⟩,fun H1 e1=>?_⟩
  rw[show nmV (.str x)=true from hx]
  have hw1:=e1 _ _ hw
  walk_at "v"
  refine r_inT (e1 _ _ ht) rfl (j3e _) ?_
  rw[j58,decide_eq_true hm]
  exact hq H1 e1
end Ns
namespace Ns
def sp_Rule_pay (a:Adr):Sp:=fun vs H Q _=>∃ (r:Addr) (ss ts:List Str) (z:Int) (w:Str),vs=[.ref r,.str w]∧ShelfAt a H r ss ts z∧Names ss∧ts.Perm ss∧w∈ss∧∀ H',ShelfAt a H' r (frt w ss) ts (z+((ss.idxOf w:Nat)+1))→But r H H'→Q (.int ((ss.idxOf w:Nat)+1)) H'
theorem ok_Rule_pay (T:Txt K mg a):FnOk P w K mg base (CXU P w) 5 a.f_z79 a.d_z79 ["self","wish"] (sp_Rule_pay a):=by
 refine T.F_z79.okU j1x (fun vs H Q E h=>?_) (fun cdv A outer s H vs Q E hr h=>?_)
 ·obtain⟨r,ss,ts,z,w,rfl,hB,hN,hts,hw,hq⟩:=h
  rfl
 ·obtain⟨r,ss,ts,z,w,rfl,hB,hN,hts,hw,hq⟩:=h
  have zc_Both:=T.cl_Both
  have zn_Both_world:=T.na_Both_world
  have zn_Both_standing:=T.na_Both_standing
  have zn_Both_spent:=T.na_Both_spent
  have zc_Buyer:=T.cl_Buyer
  have zn_Buyer_world:=T.na_Buyer_world
  have zn_Buyer_standing:=T.na_Buyer_standing
  have zn_Buyer_spent:=T.na_Buyer_spent
  have zc_Changer:=T.cl_Changer
  have zn_Changer_world:=T.na_Changer_world
  have zn_Changer_standing:=T.na_Changer_standing
  have zn_Changer_spent:=T.na_Changer_spent
  have zc_Filler:=T.cl_Filler
  have zn_Filler_world:=T.na_Filler_world
  have zn_Filler_standing:=T.na_Filler_standing
  have zn_Filler_spent:=T.na_Filler_spent
  have zc_Front:=T.cl_Front
  have zn_Front_world:=T.na_Front_world
  have zn_Front_standing:=T.na_Front_standing
  have zn_Front_spent:=T.na_Front_spent
  have zc_Keeper:=T.cl_Keeper
  have zn_Keeper_world:=T.na_Keeper_world
  have zn_Keeper_standing:=T.na_Keeper_standing
  have zn_Keeper_spent:=T.na_Keeper_spent
  refine⟨_,(j02 (j0u (j0s (ptT (j0e (j0l (pv 0) rfl) T.cl_Shelf T.me_Shelf_is_wish (Ns.ok_Shelf_is_wish T) (hr.mono (by decide)) T.b_z21 .nil j0d (j00 (pv 1) j01)) (fun _=>rfl))) (j03 j11) j0c)
   (j02 (j0z (i:=2) j1x.nd rfl (by first | exact Or.inl rfl | exact Or.inr rfl) (j0e (pv 0) T.cl_Front T.me_Front_target (Ns.ok_Front_target T) (hr.mono (by decide)) T.b_z31 .nil j0d (j00 (pv 1) j01)))
   (j02 (j0z (i:=3) j1x.nd rfl (by first | exact Or.inl rfl | exact Or.inr rfl) (j0e (pv 0) T.cl_Front T.me_Front_price_to (Ns.ok_Rule_price_to T) (hr.mono (by decide)) T.b_z20 .nil j0d (j00 (pv 1) (j00 (pv 2) j01))))
   (j02 (j1l (j0e (pv 0) T.cl_Front T.me_Front_learn (j23 T) (hr.mono (by decide)) T.b_z55 .nil j0d (j00 (pv 1) j01)))
   (j02 (j0x (pv 0) (pv 2) rfl)
   (j02 (j0x (pv 0) (j0p j1a (j0l (pv 0) rfl) (pv 3)) rfl)
   (j03 (j0a (pv 3))))))))),?_⟩
  have g8:=hN.hi
  have hp:=j57 hN.nd hw
  have lq:=hp.length_eq
  obtain⟨dx,wo,dw,st,tp,h1,h2,h3,h4⟩:=hB.ex
  walk_at "v"
  refine⟨wo,dw,tp,ts,w,rfl,h2,h4,hN.nm w hw,hts.mem_iff.mpr hw,fun H1 e1=>?_⟩
  have B1:=hB.ext e1
  have h11:=e1 _ _ h1
  walk_at "v"
  refine⟨r,ss,ts,z,w,rfl,B1,by omega,fun q H2 k2 e2=>?_⟩
  have h12:=e2 _ _ h11
  walk_at "v"
  refine⟨r,q,ss,ts,frt w ss,z,w,rfl,B1.ext e2,k2,by omega,by omega,fun x hx=>hp.mem_iff.mpr hx,List.mem_cons_self,fun H3 e3=>?_⟩
  have ei:trn ss (frt w ss)+(((frt w ss).idxOf w:Nat):Int)+1=((ss.idxOf w:Nat):Int)+1:=by
   rw[jbu hN.nd hw,show (frt w ss).idxOf w=0 from List.idxOf_cons_self]
   omega
  rw[ei]
  have h13:=e3 _ _ h12
  walk_at "v"
  refine⟨_,_,rfl,?_⟩
  walk_at "v"
  refine j1p h13 T.cl_Front T.na_Front_standing (j0y rfl) fun H4 q4 b4=>?_
  walk_at "v"
  refine j1p q4 T.cl_Front T.na_Front_spent (j0y rfl) fun H5 q5 b5=>?_
  walk_at "v"
  have x3:=(e1.tr e2).tr e3
  have nw:wo≠r:=(j47 h1 h2 (by intro z;injection z with _ _ z;exact absurd (congrArg List.length z) (by show 3≠1;decide))).symm
  have nq:q≠r:=j47 (e3 _ _ k2) h13 (by intro z;cases z)
  have nt:tp≠r:=j47 h4 h1 (by intro z;cases z)
  have b45:=b4.tr b5
  exact hq H5 ⟨dx,wo,dw,q,tp,q5,b45 _ _ nw (x3 _ _ h2),b45 _ _ nq (e3 _ _ k2),b45 _ _ nt (x3 _ _ h4)⟩ (Ext.toBut x3 b45)
end Ns
namespace Nl
def j4h:Sp:=fun vs H Q _=>∃ (p q:Addr) (ns ms:List Int),vs=[.ref p,.ref q]∧H p=some (.tup (ns.map V.int))∧H q=some (.tup (ms.map V.int))∧ns.length=ms.length∧ns.length≤1000∧∀ H',Ext H H'→Q (.int (ways ns ms)) H'
theorem ok_ways_between (T:Txt K mg a):FnOk P w K mg base (CXU P w) 1 a.f_z41 a.d_z41 ["before","after"] (j4h):=by
 refine T.F_z41.okU sc_z41 (fun vs H Q E h=>?_) (fun cdv A outer s H vs Q E hr h=>?_)
 ·obtain⟨p,q,ns,ms,rfl,hp,hq',hl,hz,hq⟩:=h
  rfl
 ·obtain⟨p,q,ns,ms,rfl,hp,hq',hl,hz,hq⟩:=h
  refine⟨_,(j03 (j0a (j07 (cSum rfl) (by rfl) T.n_sum PyProof.Rows.boot_sum (j00 (j1f (["here","there"]:List Str) ([]:List Str) [] rfl ⟨rfl,by decide +kernel,by decide +kernel,by rfl,trivial⟩ (j9f rfl T.n_zip (j00 (pv 0) (j00 (pv 1) j01))) (fun _ _ _ _=>⟨(ja7 rfl (j1z (j0w (i:=0) (by show ((["here","there"]:List Str)++([]:List Str)).Nodup;decide +kernel) rfl (by first | exact Or.inl rfl | exact Or.inr rfl)) (j1z (j0w (i:=1) (by show ((["here","there"]:List Str)++([]:List Str)).Nodup;decide +kernel) rfl (by first | exact Or.inl rfl | exact Or.inr rfl)) j79))),(show PTs _ [] [] from trivial),(j07 cAbs (by rfl) T.n_abs PyProof.Rows.boot_abs (j00 (j0p j2q (pv 0) (pv 1)) j01))⟩)) j01)))),?_⟩
  walk_at "v"
  refine⟨p,q,ns.map V.int,ms.map V.int,true,true,rfl,SqT.of hp,SqT.of hq',fun acc hn _ _ _ _=>j7o (c:=true) (d:=true) (SqT.of hp) (SqT.of hq') (by simpa using hl) (by rw[List.length_map];omega) hn
   (fun i ys _=>ys=((List.zipWith (fun a b:Int=>((a-b).natAbs:Int)) ns ms).take i).map V.int) (by simp) (fun _ _ _ _ _ h=>h) (fun i ys H' _ h=>by rw[h,List.length_map,List.length_take];omega) ?_ ?_⟩
  ·rintro i x z ys H2 H3 hx hz' e e3 rfl Y N hY hN
   obtain⟨x,ex,rfl⟩:=j5o hx
   obtain⟨z,ez,rfl⟩:=j5o hz'
   walk_at "v"
   refine hY _ _ e3 ?_
   rw[List.take_add_one,List.map_append,List.getElem?_zipWith,ex,ez]
   rfl
  ·rintro ys H2 e ha rfl
   rw[List.take_of_length_le (by rw[List.length_zipWith,List.length_map];omega)] at ha
   walk_at "v"
   exact r_sum ha (hq H2 e)
end Nl
namespace Nl
def j5z:Sp:=fun vs H Q _=>∃ (r p q:Addr) (ns ms:List Int) (w:Int),vs=[.ref r,.ref p,.int w,.ref q]∧H p=some (.tup (ns.map V.int))∧H q=some (.tup (ms.map V.int))∧ns.length=ms.length∧ns.length≤1000∧∀ H',Ext H H'→Q (if w∈ms then .int (ways ns ms) else .non) H'
theorem ok_Line_price (T:Txt K mg a):FnOk P w K mg base (CXU P w) 2 a.f_z54 a.d_z54 ["self","before","wish","after"] (j5z):=by
 refine T.F_z54.okU sc_z54 (fun vs H Q E h=>?_) (fun cdv A outer s H vs Q E hr h=>?_)
 ·obtain⟨r,p,q,ns,ms,w,rfl,hp,hq',hl,hz,hq⟩:=h
  rfl
 ·obtain⟨r,p,q,ns,ms,w,rfl,hp,hq',hl,hz,hq⟩:=h
  refine⟨_,(j02 (j0u (j0g jcc (pv 2) (pv 3) (by with_unfolding_all rfl)) (j03 (j0a j82)) j0c)
   (j03 (j0a (j0f (Nl.ok_ways_between T) (hr.mono (by decide)) (by rfl) T.m_z41 T.F_z41.kp T.b_z41 .nil j0d (j00 (pv 1) (j00 (pv 3) j01)))))),?_⟩
  walk_at "v"
  refine j6l hq' rfl (j7q _) ?_
  rw[j9i]
  walk_at "v"
  refine iteN (fun h=>?_) (fun h=>?_)
  ·rw[if_neg h] at hq
   walk_at "v"
   exact hq H Ext.rfl'
  ·rw[if_pos h] at hq
   walk_at "v"
   exact⟨p,q,ns,ms,rfl,hp,hq',hl,hz,hq⟩
end Nl
namespace Nl
def sp_Rule_price_to (a:Adr):Sp:=fun vs H Q _=>∃ (r q:Addr) (ns ms:List Int) (z w:Int),vs=[.ref r,.int w,.ref q]∧LineAt a a.c_Both H r ns z∧H q=some (.tup (ms.map V.int))∧ns.length=ms.length∧ns.length≤1000∧w∈ms∧∀ H',Ext H H'→Q (.int (ways ns ms)) H'
theorem ok_Rule_price_to (T:Txt K mg a):FnOk P w K mg base (CXU P w) 3 a.f_z20 a.d_z20 ["self","wish","after"] (sp_Rule_price_to a):=by
 refine T.F_z20.okU j9t (fun vs H Q E h=>?_) (fun cdv A outer s H vs Q E hr h=>?_)
 ·obtain⟨r,q,ns,ms,z,w,rfl,hB,hq',hl,hz,hw,hq⟩:=h
  rfl
 ·obtain⟨r,q,ns,ms,z,w,rfl,hB,hq',hl,hz,hw,hq⟩:=h
  have zc_Both:=T.cl_Both
  have zn_Both_world:=T.na_Both_world
  have zn_Both_standing:=T.na_Both_standing
  have zc_Buyer:=T.cl_Buyer
  have zn_Buyer_world:=T.na_Buyer_world
  have zn_Buyer_standing:=T.na_Buyer_standing
  have zc_Changer:=T.cl_Changer
  have zn_Changer_world:=T.na_Changer_world
  have zn_Changer_standing:=T.na_Changer_standing
  have zc_Filler:=T.cl_Filler
  have zn_Filler_world:=T.na_Filler_world
  have zn_Filler_standing:=T.na_Filler_standing
  have zc_Front:=T.cl_Front
  have zn_Front_world:=T.na_Front_world
  have zn_Front_standing:=T.na_Front_standing
  have zc_Keeper:=T.cl_Keeper
  have zn_Keeper_world:=T.na_Keeper_world
  have zn_Keeper_standing:=T.na_Keeper_standing
  refine⟨_,(j03 (j0a (j0e (j0l (pv 0) rfl) T.cl_Line T.me_Line_price (Nl.ok_Line_price T) (hr.mono (by decide)) T.b_z54 .nil j0d (j00 (j0l (pv 0) rfl) (j00 (pv 1) (j00 (pv 2) j01)))))),?_⟩
  obtain⟨dx,wo,dw,st,h1,h2,h3⟩:=hB.ex
  walk_at "v"
  refine⟨wo,st,q,ns,ms,w,rfl,h3,hq',hl,hz,fun H' e=>?_⟩
  rw[if_pos hw]
  exact hq H' e
end Nl
namespace Nl
theorem j81 {w:Int}{ns:List Int}{i:Nat}{y:Int} (e:ns[i]?=some y) (p:Int→Bool):((ns.take (i+1)).filter p).map V.int=if p y=true then ((ns.take i).filter p).map V.int++[.int y] else ((ns.take i).filter p).map V.int:=by
 rw[List.take_add_one,e,List.filter_append]
 by_cases h:p y=true
 ·rw[if_pos h];simp[h]
 ·rw[if_neg h];simp[h]
theorem j6u:∀ (l:List Int) (x:Int),l≠[]→l.set (l.length-1) x=l.dropLast++[x]
 | [],_,h=>(h rfl).elim
 | [a],x,_=>rfl
 | a :: b :: r,x,_=>by
  have:=j6u (b :: r) x (by simp)
  simp only[List.length_cons,List.dropLast_cons_of_ne_nil (List.cons_ne_nil b r),List.cons_append] at this ⊢
  show a :: (b :: r).set (r.length+1-1+1-1) x=_
  rw[← this]
  simp
theorem ixN_last {n:Nat} (h:0 < n):ixN n (-1)=some (n-1):=by
 unfold ixN
 rw[if_neg (by decide),if_pos (by omega)]
 congr 1
 omega
theorem atI_last' {ns:List Int} (h:ns≠[]):atI (ns.map V.int) (-1)=some (.int (ns.getLastD 0)):=by
 have hl:0 < ns.length:=List.length_pos_iff.mpr h
 unfold atI
 rw[List.length_map,ixN_last hl]
 show (ns.map V.int)[ns.length-1]?=_
 rw[List.getElem?_map,List.getElem?_eq_getElem (by omega),List.getLastD_eq_getLast?,List.getLast?_eq_getElem?,List.getElem?_eq_getElem (by omega)]
 rfl
theorem ja0 {ns:List Int} (h:ns≠[]):atI (ns.map V.int) 0=some (.int (ns.headD 0)):=by
 cases ns with
 | nil=>exact (h rfl).elim
 | cons a r=>exact jbj (j:=0) rfl
def j5b (a:Adr):Sp:=fun vs H Q _=>∃ (r:Addr) (ns:List Int) (z w:Int),vs=[.ref r,.int w]∧LineAt a a.c_Both H r ns z∧1≤ns.length∧ns.length≤1000∧∀ q H',H' q=some (.tup ((goB ns w).map V.int))→Ext H H'→Q (.ref q) H'
theorem ok_Both_target (T:Txt K mg a):FnOk P w K mg base (CXU P w) 1 a.f_z43 a.d_z43 ["self","wish"] (j5b a):=by
 refine T.F_z43.okU jb1 (fun vs H Q E h=>?_) (fun cdv A outer s H vs Q E hr h=>?_)
 ·obtain⟨r,ns,z,w,rfl,hB,h0,hz,hq⟩:=h
  rfl
 ·obtain⟨r,ns,z,w,rfl,hB,h0,hz,hq⟩:=h
  have zc_Both:=T.cl_Both
  have zn_Both_standing:=T.na_Both_standing
  have zc_Buyer:=T.cl_Buyer
  have zn_Buyer_standing:=T.na_Buyer_standing
  have zc_Changer:=T.cl_Changer
  have zn_Changer_standing:=T.na_Changer_standing
  have zc_Filler:=T.cl_Filler
  have zn_Filler_standing:=T.na_Filler_standing
  have zc_Front:=T.cl_Front
  have zn_Front_standing:=T.na_Front_standing
  have zc_Keeper:=T.cl_Keeper
  have zn_Keeper_standing:=T.na_Keeper_standing
  refine⟨_,(j02 (j0u (j0g oIn (pv 1) (j0l (pv 0) rfl) (by with_unfolding_all rfl)) (j03 (j0a (j0l (pv 0) rfl))) j0c)
   (j02 (j2i (i:=2) (["place"]:List Str) (["wish"]:List Str) [1] jb1.nd rfl (Or.inl rfl) rfl ⟨rfl,by decide +kernel,by decide +kernel,by rfl,⟨⟨rfl,by first | exact Or.inl rfl | exact Or.inr rfl,by first | exact Or.inl rfl | exact Or.inr rfl⟩,trivial⟩⟩ (j4y (j0l (pv 0) rfl)) (fun _ _ _ _=>⟨(j0w (i:=0) (by show ((["place"]:List Str)++(["wish"]:List Str)).Nodup;decide +kernel) rfl (by first | exact Or.inl rfl | exact Or.inr rfl)),(show PTs _ [_] [_] from⟨(j0g jd6 (pv 0) (pv 1) (j0m _)),trivial⟩),(pv 0)⟩))
   (j02 (j2i (i:=3) (["place"]:List Str) (["wish"]:List Str) [1] jb1.nd rfl (Or.inl rfl) rfl ⟨rfl,by decide +kernel,by decide +kernel,by rfl,⟨⟨rfl,by first | exact Or.inl rfl | exact Or.inr rfl,by first | exact Or.inl rfl | exact Or.inr rfl⟩,trivial⟩⟩ (j4y (j0l (pv 0) rfl)) (fun _ _ _ _=>⟨(j0w (i:=0) (by show ((["place"]:List Str)++(["wish"]:List Str)).Nodup;decide +kernel) rfl (by first | exact Or.inl rfl | exact Or.inr rfl)),(show PTs _ [_] [_] from⟨(j0g jfd (pv 0) (pv 1) (j0m _)),trivial⟩),(pv 0)⟩))
   (j02 (j0u (j0s (ptT (pv 3) (fun _=>rfl))) (j03 (j8q (pv 1) (ja8 (pv 2) (jc0 j6c j08) j51))) (j03 (j0u (j0s (ptT (pv 2) (fun _=>rfl))) (j03 (j8q (pv 1) (ja8 (pv 3) j08 j51))) (j02 (j0z (i:=4) jb1.nd rfl (by first | exact Or.inl rfl | exact Or.inr rfl) (j07 (cMin2 rfl) (by rfl) T.n_min PyProof.Rows.boot_min (j00 (j0p j2q (pv 1) (j14 oIx (pv 2) (jc0 j6c j08) (fun _ _=>rfl))) (j00 (j0p j2q (j14 oIx (pv 3) j08 (fun _ _=>rfl)) (pv 1)) j01))))
   (j02 (j8q (j0p j1a (j14 oIx (pv 2) (jc0 j6c j08) (fun _ _=>rfl)) (pv 4)) (ja8 (pv 2) (jc0 j6c j08) j51))
   (j03 (j8q (j0p j2q (j14 oIx (pv 3) j08 (fun _ _=>rfl)) (pv 4)) (ja8 (pv 3) j08 j51))))))))
   (j03 (j0a (j0r j3i (by rfl) T.n_tuple PyProof.Rows.boot_tuple (j00 (j0p j1a (pv 2) (pv 3)) j01)))))))),?_⟩
  unfold goB at hq
  obtain⟨dx,wo,dw,st,h1,h2,h3⟩:=hB.ex
  walk_at "v"
  refine r_inT h3 rfl (j7q _) ?_
  rw[j9i]
  walk_at "v"
  refine iteD (fun hw=>?_) (fun hw=>?_)
  ·rw[if_pos hw] at hq
   walk_at "v"
   exact hq st H h3 Ext.rfl'
  ·rw[if_neg hw] at hq
   walk_at "v"
   refine⟨st,rfl,⟨_,SqT.of h3⟩,fun acc hn _ _ _ _=>j29 (SqT.of h3) (by rw[List.length_map];omega) hn (fun j ys _=>ys=((ns.take j).filter fun x=>decide (x < w)).map V.int) (by simp) (fun _ _ _ _ _ h=>h) (fun j ys H' _ h=>by rw[h,List.length_map];exact Nat.le_trans (List.length_filter_le _ _) (by rw[List.length_take];omega)) ?_ ?_⟩
   ·rintro j y ys H2 hy e rfl Y N hY hN
    obtain⟨y,ey,rfl⟩:=j5o hy
    walk_at "v"
    refine iteD (fun h=>?_) (fun h=>?_)
    ·walk_at "v"
     exact hY _ _ Ext.rfl' (by rw[j81 (w:=w) ey,if_pos (decide_eq_true h)])
    ·walk_at "v"
     exact hN _ Ext.rfl' (by rw[j81 (w:=w) ey,if_neg (by simpa using h)])
   rintro ys H2 e2 ha rfl
   rw[List.length_map,List.take_of_length_le (Nat.le_refl _)] at ha
   have h3':=e2 _ _ h3
   walk_at "v"
   refine⟨st,rfl,⟨_,SqT.of h3'⟩,fun acc2 hn2 _ _ _ _=>j29 (SqT.of h3') (by rw[List.length_map];omega) hn2 (fun j ys _=>ys=((ns.take j).filter fun x=>decide (w < x)).map V.int) (by simp) (fun _ _ _ _ _ h=>h) (fun j ys H' _ h=>by rw[h,List.length_map];exact Nat.le_trans (List.length_filter_le _ _) (by rw[List.length_take];omega)) ?_ ?_⟩
   ·rintro j y ys H3 hy e rfl Y N hY hN
    obtain⟨y,ey,rfl⟩:=j5o hy
    walk_at "v"
    refine iteD (fun h=>?_) (fun h=>?_)
    ·walk_at "v"
     exact hY _ _ Ext.rfl' (by rw[j81 (w:=w) ey,if_pos (decide_eq_true h)])
    ·walk_at "v"
     exact hN _ Ext.rfl' (by rw[j81 (w:=w) ey,if_neg (by simpa using h)])
   rintro ys H3 e3 hb rfl
   rw[List.length_map,List.take_of_length_le (Nat.le_refl _)] at hb
   have ha3:=e3 _ _ ha
   have zl:=List.length_filter_le (fun x=>decide (x < w)) ns
   have zr:=List.length_filter_le (fun x=>decide (w < x)) ns
   have nL:H acc=none:=hn
   have nR:H acc2=none:=e2.free hn2
   have nLR:acc≠acc2:=j05 ha hn2
   have some1:¬ (ns.filter (fun x=>decide (x < w))=[]∧ns.filter (fun x=>decide (w < x))=[]):=by
    rintro⟨eL,eR⟩
    cases ns with
    | nil=>simp at h0
    | cons b t =>
     have k1:¬ b < w:=fun q=>by
      have:b∈(b :: t).filter fun x=>decide (x < w):=List.mem_filter.mpr ⟨List.mem_cons_self,decide_eq_true q⟩
      rw[eL] at this;simp at this
     have k2:¬ w < b:=fun q=>by
      have:b∈(b :: t).filter fun x=>decide (w < x):=List.mem_filter.mpr ⟨List.mem_cons_self,decide_eq_true q⟩
      rw[eR] at this;simp at this
     exact hw (by
       have:w=b:=by omega
       rw[this];exact List.mem_cons_self)
   generalize (ns.filter fun x=>decide (x < w))=L at *
   generalize (ns.filter fun x=>decide (w < x))=R at *
   have x3:Ext H H3:=e2.tr e3
   walk_at "v"
   refine jaj (SqL.of hb) ?_
   cases R with
   | nil =>
    have nl:L≠[]:=fun q=>some1 ⟨q,rfl⟩
    have l0:0 < L.length:=List.length_pos_iff.mpr nl
    rw[if_pos rfl] at hq
    walk_at "v"
    refine jar ha3 (j:=L.length-1) (by rw[List.length_map];exact ixN_last l0) fun H4 h4 b4=>?_
    rw[show (V.int w)=(fun i=>V.int i) w from rfl,← List.map_set,j6u _ _ nl] at h4
    walk_at "v"
    refine j2m h4 (b4 _ _ nLR.symm hb) (by simp;omega) fun l H5 n5 h5 e5=>?_
    walk_at "v"
    refine j17 h5 fun q H6 n6 h6 e6=>?_
    exact hq q H6 (by rw[h6];simp) (((x3.but b4 nL).tr e5).tr e6)
   | cons r0 Rt =>
    rw[if_neg (by simp)] at hq
    walk_at "v"
    refine jaj (SqL.of ha3) ?_
    cases L with
    | nil =>
     rw[if_pos rfl] at hq
     walk_at "v"
     refine jar hb (j:=0) (by rw[List.length_map];unfold ixN;rw[if_pos (by decide),if_pos (by simp)];rfl) fun H4 h4 b4=>?_
     walk_at "v"
     refine j2m (b4 _ _ nLR ha3) h4 (by simp at *;omega) fun l H5 n5 h5 e5=>?_
     walk_at "v"
     refine j17 h5 fun q H6 n6 h6 e6=>?_
     exact hq q H6 (by rw[h6];rfl) (((x3.but b4 nR).tr e5).tr e6)
    | cons l0 Lt =>
     have nl:l0 :: Lt≠[]:=by simp
     have nr:r0 :: Rt≠[]:=by simp
     have ll:0 < (l0 :: Lt).length:=by simp
     rw[if_neg (by simp)] at hq
     walk_at "v"
     generalize l0 :: Lt=L at *
     generalize hR:r0 :: Rt=R at *
     refine j25 ha3 (atI_last' nl) ?_
     walk_at "v"
     refine j25 hb (ja0 nr) ?_
     walk_at "v"
     refine j25 ha3 (atI_last' nl) ?_
     generalize min (w-L.getLastD 0) (R.headD 0-w)=step at *
     walk_at "v"
     refine jar ha3 (j:=L.length-1) (by rw[List.length_map];exact ixN_last ll) fun H4 h4 b4=>?_
     rw[show (V.int (L.getLastD 0+step))=(fun i=>V.int i) (L.getLastD 0+step) from rfl,← List.map_set,j6u _ _ nl] at h4
     have hb4:=b4 _ _ nLR.symm hb
     walk_at "v"
     refine j25 hb4 (ja0 nr) ?_
     walk_at "v"
     refine jar hb4 (j:=0) (by rw[List.length_map,← hR];unfold ixN;rw[if_pos (by decide),if_pos (by simp)];rfl) fun H5 h5 b5=>?_
     have h45:=b5 _ _ nLR h4
     walk_at "v"
     refine j2m h45 h5 (by simp at *;omega) fun l H6 n6 h6 e6=>?_
     walk_at "v"
     refine j17 h6 fun q H7 n7 h7 e7=>?_
     refine hq q H7 ?_ (((((x3.but b4 nL).but b5 nR)).tr e6).tr e7)
     rw[h7,← hR]
     simp
end Nl
def plc:V→Bool
 | .int i=>decide ((i.natAbs:Int)≤1000000000000000000)
 | _=>false
def j8g:Sp:=fun vs H Q _=>∃ x k,vs=[x]∧HasK H x k∧Q (.bl (plc x)) H
theorem j4w (T:Txt K mg a):FnOk P w K mg base (CXU P w) 2 a.f_z80 a.d_z80 ["thing"] (j8g):=by
 refine T.F_z80.okU sc_z80 (fun vs H Q E h=>?_) (fun cdv A outer s H vs Q E hr h=>?_)
 ·obtain⟨x,k,rfl,hk,hq⟩:=h
  rfl
 ·obtain⟨x,k,rfl,hk,hq⟩:=h
  refine⟨_,(j03 (j0a (j1t (j0f (j10 T) (hr.mono (by decide)) (by rfl) T.m_z6 T.F_z6.kp T.b_z6 .nil j0d (j00 (pv 0) j01)) (j1y (j1n oLeW (j07 cAbs (by rfl) T.n_abs PyProof.Rows.boot_abs (j00 (pv 0) j01)) (j0p j83 j08 j08) (j0m _)))))),?_⟩
  walk_at "v"
  refine⟨x,k,rfl,hk,?_⟩
  cases x with
  | int i =>
   cases (show k=.int from hk)
   walk_at "v"
   exact hq
  | non=>cases (show k=.non from hk);(walk_at "v");exact hq
  | bl b=>cases (show k=.bl from hk);(walk_at "v");exact hq
  | str b=>cases (show k=.str from hk);(walk_at "v");exact hq
  | ref b =>
   have e:(k == .int)=false:=by rcases hk with⟨_,_,rfl⟩ | ⟨_,_,rfl⟩ | ⟨_,_,rfl⟩ <;> rfl
   rw[e];(walk_at "v");exact hq
  | _=>exact hk.elim
namespace Nl
def j4i:Sp:=fun vs H Q _=>∃ r x k,vs=[.ref r,x]∧HasK H x k∧Q (.bl (plc x)) H
theorem ok_Line_is_wish (T:Txt K mg a):FnOk P w K mg base (CXU P w) 3 a.f_z35 a.d_z35 ["self","thing"] (j4i):=by
 refine T.F_z35.okU sc_z35 (fun vs H Q E h=>?_) (fun cdv A outer s H vs Q E hr h=>?_)
 ·obtain⟨r,x,k,rfl,hk,hq⟩:=h
  rfl
 ·obtain⟨r,x,k,rfl,hk,hq⟩:=h
  refine⟨_,(j03 (j0a (j0f (j4w T) (hr.mono (by decide)) (by rfl) T.m_z80 T.F_z80.kp T.b_z80 .nil j0d (j00 (pv 1) j01)))),?_⟩
  walk_at "v"
  exact⟨x,k,rfl,hk,hq⟩
end Nl
namespace Nl
def sp_Rule_pay (a:Adr):Sp:=fun vs H Q _=>∃ (r:Addr) (ns:List Int) (z w:Int),vs=[.ref r,.int w]∧LineAt a a.c_Both H r ns z∧Good ns∧-1000000000000000000≤w∧w≤1000000000000000000∧∀ H',LineAt a a.c_Both H' r (goB ns w) (z+ways ns (goB ns w))→But r H H'→Q (.int (ways ns (goB ns w))) H'
theorem ok_Rule_pay (T:Txt K mg a):FnOk P w K mg base (CXU P w) 4 a.f_z79 a.d_z79 ["self","wish"] (sp_Rule_pay a):=by
 refine T.F_z79.okU j1x (fun vs H Q E h=>?_) (fun cdv A outer s H vs Q E hr h=>?_)
 ·obtain⟨r,ns,z,w,rfl,hB,hg,w0,w1,hq⟩:=h
  rfl
 ·obtain⟨r,ns,z,w,rfl,hB,hg,w0,w1,hq⟩:=h
  have zc_Both:=T.cl_Both
  have zn_Both_world:=T.na_Both_world
  have zn_Both_standing:=T.na_Both_standing
  have zn_Both_spent:=T.na_Both_spent
  have zc_Buyer:=T.cl_Buyer
  have zn_Buyer_world:=T.na_Buyer_world
  have zn_Buyer_standing:=T.na_Buyer_standing
  have zn_Buyer_spent:=T.na_Buyer_spent
  have zc_Changer:=T.cl_Changer
  have zn_Changer_world:=T.na_Changer_world
  have zn_Changer_standing:=T.na_Changer_standing
  have zn_Changer_spent:=T.na_Changer_spent
  have zc_Filler:=T.cl_Filler
  have zn_Filler_world:=T.na_Filler_world
  have zn_Filler_standing:=T.na_Filler_standing
  have zn_Filler_spent:=T.na_Filler_spent
  have zc_Front:=T.cl_Front
  have zn_Front_world:=T.na_Front_world
  have zn_Front_standing:=T.na_Front_standing
  have zn_Front_spent:=T.na_Front_spent
  have zc_Keeper:=T.cl_Keeper
  have zn_Keeper_world:=T.na_Keeper_world
  have zn_Keeper_standing:=T.na_Keeper_standing
  have zn_Keeper_spent:=T.na_Keeper_spent
  refine⟨_,(j02 (j0u (j0s (ptT (j0e (j0l (pv 0) rfl) T.cl_Line T.me_Line_is_wish (Nl.ok_Line_is_wish T) (hr.mono (by decide)) T.b_z35 .nil j0d (j00 (pv 1) j01)) (fun _=>rfl))) (j03 j11) j0c)
   (j02 (j0z (i:=2) j1x.nd rfl (by first | exact Or.inl rfl | exact Or.inr rfl) (j0e (pv 0) T.cl_Both T.me_Both_target (Nl.ok_Both_target T) (hr.mono (by decide)) T.b_z43 .nil j0d (j00 (pv 1) j01)))
   (j02 (j0z (i:=3) j1x.nd rfl (by first | exact Or.inl rfl | exact Or.inr rfl) (j0e (pv 0) T.cl_Both T.me_Both_price_to (Nl.ok_Rule_price_to T) (hr.mono (by decide)) T.b_z20 .nil j0d (j00 (pv 1) (j00 (pv 2) j01))))
   (j02 (j1l (j0e (pv 0) T.cl_Both T.me_Both_learn (j23 T) (hr.mono (by decide)) T.b_z55 .nil j0d (j00 (pv 1) j01)))
   (j02 (j0x (pv 0) (pv 2) rfl)
   (j02 (j0x (pv 0) (j0p j1a (j0l (pv 0) rfl) (pv 3)) rfl)
   (j03 (j0a (pv 3))))))))),?_⟩
  have g1:=hg.lo
  have g6:=hg.hi
  obtain⟨dx,wo,dw,st,h1,h2,h3⟩:=hB.ex
  walk_at "v"
  refine⟨wo,.int w,.int,rfl,rfl,?_⟩
  rw[show plc (.int w)=true from decide_eq_true (by omega)]
  walk_at "v"
  refine⟨r,ns,z,w,rfl,hB,g1,by omega,fun q H1 k1 e1=>?_⟩
  walk_at "v"
  refine⟨r,q,ns,goB ns w,z,w,rfl,hB.ext e1,k1,(goB_len hg.srt g1).symm,by omega,goB_in hg.srt g1,fun H2 e2=>?_⟩
  have q1:=e2 _ _ (e1 _ _ h1)
  walk_at "v"
  refine⟨_,_,rfl,?_⟩
  walk_at "v"
  refine j1p q1 T.cl_Both T.na_Both_standing (j0y rfl) fun H3 q3 b3=>?_
  walk_at "v"
  refine j1p q3 T.cl_Both T.na_Both_spent (j0y rfl) fun H4 q4 b4=>?_
  walk_at "v"
  have x2:=e1.tr e2
  have nw:wo≠r:=(j47 h1 h2 (by intro z;injection z with _ _ z;exact absurd (congrArg List.length z) (by show 3≠1;decide))).symm
  have nq:q≠r:=j47 (e2 _ _ k1) q1 (by intro z;cases z)
  refine hq H4 ⟨dx,wo,dw,q,q4,?_,b4 _ _ nq (b3 _ _ nq (e2 _ _ k1))⟩ (Ext.toBut x2 (But.tr b3 b4))
  rw[goB_len hg.srt g1]
  exact b4 _ _ nw (b3 _ _ nw (x2 _ _ h2))
end Nl
def j60:Sp:=fun vs H Q _=>∃ (g:G83) (wd:Str) (p:Addr),vs=[.str wd,.ref p]∧GAt H g wd p∧∀ t H',H' t=some (.tup [.int g.f1,.int g.f2])→Ext H H'→Q (.ref t) H'
theorem j61 (T:Txt K mg a):FnOk P w K mg base (CXU P w) 1 a.f_z61 a.d_z61 ["_law_word","_law_start_here"] (j60):=by
 refine T.F_z61.okU sc_z61 (fun vs H Q E h=>?_) (fun cdv A outer s H vs Q E hr h=>?_)
 ·obtain⟨g,wd,p,rfl,⟨hwd,hp,hok⟩,hq⟩:=h
  rfl
 ·obtain⟨g,wd,p,rfl,⟨hwd,hp,hok⟩,hq⟩:=h
  refine⟨_,(j02 (j0u (PW.pt (j34 (j0g (oEq hr) (pv 0) j0q (j0m _)) (j1k (j0g (oEq hr) (pv 0) j0q (j0m _))))) (j03 (j0a (j1h (j00 (j07 j1w (by rfl) T.n_len PySem.boot_len (j00 (pv 1) j01)) (j00 j08 j01))))) j0c)
   (j02 (j0u (j0g (oEq hr) (pv 0) j0q (j0m _)) (j03 (j0a (j1h (j00 (j0p j2q (j0p j5q j08 (j07 j1w (by rfl) T.n_len PySem.boot_len (j00 (pv 1) j01))) j08) (j00 (j07 j1w (by rfl) T.n_len PySem.boot_len (j00 (pv 1) j01)) j01))))) j0c)
   (j02 (j0u (j0g (oEq hr) (pv 0) j0q (j0m _)) (j03 (j0a (j1h (j00 (j0p j2q (j0p j5q j08 (j14 oIx (pv 1) j08 (fun _ _=>rfl))) j08) (j00 (j14 oIx (pv 1) j08 (fun _ _=>rfl)) j01))))) j0c)
   (j02 (j0u (j0g (oEq hr) (pv 0) j0q (j0m _)) (j03 (j0a (j1h (j00 (j0p j2q (j0p j5q j08 (j14 oIx (pv 1) j08 (fun _ _=>rfl))) j08) (j00 j08 j01))))) j0c)
   (j03 (j0a (j1h (j00 (j0p j5q j08 (j14 oIx (pv 1) j08 (fun _ _=>rfl))) (j00 (j14 oIx (pv 1) j08 (fun _ _=>rfl)) j01))))))))),?_⟩
  cases g with
  | line ns =>
   have hlo:=hok.lo
   have hhi:=hok.hi
   have hp:H p=some (.tup (ns.map V.int)):=hp
   have hwd:wd=Str.ofString "line":=hwd
   walk_at "v"
   refine j09 ?_
   rw[show decide (wd=Str.ofString "line")=true by rw[hwd];decide]
   walk_at "v"
   refine j0t hp ?_
   rw[List.length_map]
   walk_at "v"
   intro t H1 n1 q1 e1
   exact hq t H1 q1 e1
  | shelf ss =>
   have hlo:=hok.lo
   have hhi:=hok.hi
   have hp:H p=some (.tup (ss.map V.str)):=hp
   have hwd:wd=Str.ofString "shelf":=hwd
   walk_at "v"
   refine j09 ?_
   rw[show decide (wd=Str.ofString "line")=false by rw[hwd];decide]
   walk_at "v"
   refine j09 ?_
   rw[show decide (wd=Str.ofString "store")=false by rw[hwd];decide]
   walk_at "v"
   refine j09 ?_
   rw[show decide (wd=Str.ofString "shelf")=true by rw[hwd];decide]
   walk_at "v"
   refine j0t hp ?_
   rw[List.length_map]
   walk_at "v"
   refine j0t hp ?_
   rw[List.length_map]
   walk_at "v"
   intro t H1 n1 q1 e1
   exact hq t H1 q1 e1
  | hire W =>
   obtain⟨w1,w2⟩:=hok
   have hwd:wd=Str.ofString "hire":=hwd
   walk_at "v"
   refine j09 ?_
   rw[show decide (wd=Str.ofString "line")=false by rw[hwd];decide]
   walk_at "v"
   refine j09 ?_
   rw[show decide (wd=Str.ofString "store")=false by rw[hwd];decide]
   walk_at "v"
   refine j09 ?_
   rw[show decide (wd=Str.ofString "shelf")=false by rw[hwd];decide]
   walk_at "v"
   refine j09 ?_
   rw[show decide (wd=Str.ofString "hire")=true by rw[hwd];decide]
   walk_at "v"
   refine j1d hp rfl ?_
   walk_at "v"
   refine j1d hp rfl ?_
   walk_at "v"
   intro t H1 n1 q1 e1
   exact hq t H1 q1 e1
  | ways n t h =>
   obtain⟨n1,n8,h0,h1,t0,t1⟩:=hok
   have hwd:wd=Str.ofString "ways":=hwd
   walk_at "v"
   refine j09 ?_
   rw[show decide (wd=Str.ofString "line")=false by rw[hwd];decide]
   walk_at "v"
   refine j09 ?_
   rw[show decide (wd=Str.ofString "store")=false by rw[hwd];decide]
   walk_at "v"
   refine j09 ?_
   rw[show decide (wd=Str.ofString "shelf")=false by rw[hwd];decide]
   walk_at "v"
   refine j09 ?_
   rw[show decide (wd=Str.ofString "hire")=false by rw[hwd];decide]
   walk_at "v"
   refine j09 ?_
   rw[show decide (wd=Str.ofString "ways")=true by rw[hwd];decide]
   walk_at "v"
   refine j1d hp rfl ?_
   walk_at "v"
   intro t H1 n1 q1 e1
   exact hq t H1 q1 e1
  | store ss =>
   have hlo:=hok.lo
   have hhi:=hok.hi
   have hp:H p=some (.tup (ss.map V.str)):=hp
   have hwd:wd=Str.ofString "store":=hwd
   walk_at "v"
   refine j09 ?_
   rw[show decide (wd=Str.ofString "line")=false by rw[hwd];decide]
   walk_at "v"
   refine j09 ?_
   rw[show decide (wd=Str.ofString "store")=true by rw[hwd];decide]
   walk_at "v"
   refine j0t hp ?_
   rw[List.length_map]
   walk_at "v"
   intro t H1 n1 q1 e1
   exact hq t H1 q1 e1
  | bags R =>
   obtain⟨r1,r2⟩:=hok
   have hwd:wd=Str.ofString "bags":=hwd
   walk_at "v"
   refine j09 ?_
   rw[show decide (wd=Str.ofString "line")=false by rw[hwd];decide]
   walk_at "v"
   refine j09 ?_
   rw[show decide (wd=Str.ofString "store")=false by rw[hwd];decide]
   walk_at "v"
   refine j09 ?_
   rw[show decide (wd=Str.ofString "shelf")=false by rw[hwd];decide]
   walk_at "v"
   refine j09 ?_
   rw[show decide (wd=Str.ofString "hire")=false by rw[hwd];decide]
   walk_at "v"
   refine j09 ?_
   rw[show decide (wd=Str.ofString "ways")=false by rw[hwd];decide]
   walk_at "v"
   refine j1d hp rfl ?_
   walk_at "v"
   refine j1d hp rfl ?_
   walk_at "v"
   intro t H1 n1 q1 e1
   exact hq t H1 q1 e1
namespace Nb
def j3x (a:Adr):Sp:=fun vs H Q _=>∃ (r:Addr) (R z:Int) (ps ss:List Int),vs=[.ref r]∧BagAt a H r R ps ss z∧∀ p H',H p=none→H' p=some (.tup [.int (2 * R),.int R])→Ext H H'→Q (.ref p) H'
theorem ok_Filler_factor (T:Txt K mg a):FnOk P w K mg base (CXU P w) 1 a.f_z14 a.d_z14 ["self"] (j3x a):=by
 refine T.F_z14.okU sc_z14 (fun vs H Q E h=>?_) (fun cdv A outer s H vs Q E hr h=>?_)
 ·obtain⟨r,R,z,ps,ss,rfl,hB,hq⟩:=h
  rfl
 ·obtain⟨r,R,z,ps,ss,rfl,hB,hq⟩:=h
  have zc_Bags:=T.cl_Bags
  have zn_Bags_room:=T.na_Bags_room
  have zc_Both:=T.cl_Both
  have zn_Both_world:=T.na_Both_world
  have zc_Buyer:=T.cl_Buyer
  have zn_Buyer_world:=T.na_Buyer_world
  have zc_Changer:=T.cl_Changer
  have zn_Changer_world:=T.na_Changer_world
  have zc_Filler:=T.cl_Filler
  have zn_Filler_world:=T.na_Filler_world
  have zc_Front:=T.cl_Front
  have zn_Front_world:=T.na_Front_world
  have zc_Keeper:=T.cl_Keeper
  have zn_Keeper_world:=T.na_Keeper_world
  refine⟨_,(j03 (j0a (j1h (j00 (j0p j5q j08 (j0l (j0l (pv 0) rfl) rfl)) (j00 (j0l (j0l (pv 0) rfl) rfl) j01))))),?_⟩
  obtain⟨dx,wo,dw,st,q,h1,h2,h3,h4⟩:=hB.ex
  walk_at "v"
  exact hq
end Nb
namespace Nk
def j3y (a:Adr):Sp:=fun vs H Q _=>∃ (r:Addr) (row:List Str) (z:Int),vs=[.ref r]∧KeepAt a H r row z∧∀ p H',H p=none→H' p=some (.tup [.int (row.length:Nat),.int 1])→Ext H H'→Q (.ref p) H'
theorem ok_Keeper_factor (T:Txt K mg a):FnOk P w K mg base (CXU P w) 1 a.f_z17 a.d_z17 ["self"] (j3y a):=by
 refine T.F_z17.okU sc_z17 (fun vs H Q E h=>?_) (fun cdv A outer s H vs Q E hr h=>?_)
 ·obtain⟨r,row,z,rfl,hB,hq⟩:=h
  rfl
 ·obtain⟨r,row,z,rfl,hB,hq⟩:=h
  have zc_Keeper:=T.cl_Keeper
  have zn_Keeper_row:=T.na_Keeper_row
  refine⟨_,(j03 (j0a (j1h (j00 (j07 j1w (by rfl) T.n_len PySem.boot_len (j00 (j0l (pv 0) rfl) j01)) (j00 j08 j01))))),?_⟩
  obtain⟨dx,wo,dw,st,q,ss,k⟩:=hB.ex
  have h1:=k.hr
  walk_at "v"
  refine j3n k.hq ?_
  rw[List.length_map]
  walk_at "v"
  exact hq
end Nk
namespace Nw
def j3b (a:Adr):Sp:=fun vs H Q _=>∃ (r:Addr) (ns:List Int) (h t z:Int),vs=[.ref r]∧WaysAt a H r ns h t z∧∀ p H',H p=none→H' p=some (.tup [.int (2 * ns.length-1),.int 1])→Ext H H'→Q (.ref p) H'
theorem ok_Changer_factor (T:Txt K mg a):FnOk P w K mg base (CXU P w) 1 a.f_z7 a.d_z7 ["self"] (j3b a):=by
 refine T.F_z7.okU sc_z7 (fun vs H Q E h=>?_) (fun cdv A outer s H vs Q E hr h=>?_)
 ·obtain⟨r,ns,h,t,z,rfl,hB,hq⟩:=h
  rfl
 ·obtain⟨r,ns,h,t,z,rfl,hB,hq⟩:=h
  have zc_Both:=T.cl_Both
  have zn_Both_world:=T.na_Both_world
  have zc_Buyer:=T.cl_Buyer
  have zn_Buyer_world:=T.na_Buyer_world
  have zc_Changer:=T.cl_Changer
  have zn_Changer_world:=T.na_Changer_world
  have zc_Filler:=T.cl_Filler
  have zn_Filler_world:=T.na_Filler_world
  have zc_Front:=T.cl_Front
  have zn_Front_world:=T.na_Front_world
  have zc_Keeper:=T.cl_Keeper
  have zn_Keeper_world:=T.na_Keeper_world
  have zc_Line:=T.cl_Line
  have zn_Line_many:=T.na_Line_many
  have zc_Store:=T.cl_Store
  have zn_Store_many:=T.na_Store_many
  have zc_Ways:=T.cl_Ways
  have zn_Ways_many:=T.na_Ways_many
  refine⟨_,(j03 (j0a (j1h (j00 (j0p j2q (j0p j5q j08 (j0l (j0l (pv 0) rfl) rfl)) j08) (j00 j08 j01))))),?_⟩
  obtain⟨dx,wo,dw,q,h1,h2,h3⟩:=hB.ex
  walk_at "v"
  exact hq
end Nw
namespace Nh
def j4j (a:Adr):Sp:=fun vs H Q _=>∃ r W st z,vs=[.ref r]∧BuyAt a H r W st z∧0≤W∧W≤1000000000000000000∧∀ p H',H p=none→H' p=some (.tup [.int (2 * W-1),.int W])→Ext H H'→Q (.ref p) H'
theorem ok_Buyer_factor (T:Txt K mg a):FnOk P w K mg base (CXU P w) 1 a.f_z25 a.d_z25 ["self"] (j4j a):=by
 refine T.F_z25.okU sc_z25 (fun vs H Q E h=>?_) (fun cdv A outer s H vs Q E hr h=>?_)
 ·obtain⟨r,W,st,z,rfl,hB,w0,w1,hq⟩:=h
  rfl
 ·obtain⟨r,W,st,z,rfl,hB,w0,w1,hq⟩:=h
  have zc_Both:=T.cl_Both
  have zn_Both_world:=T.na_Both_world
  have zc_Buyer:=T.cl_Buyer
  have zn_Buyer_world:=T.na_Buyer_world
  have zc_Changer:=T.cl_Changer
  have zn_Changer_world:=T.na_Changer_world
  have zc_Filler:=T.cl_Filler
  have zn_Filler_world:=T.na_Filler_world
  have zc_Front:=T.cl_Front
  have zn_Front_world:=T.na_Front_world
  have zc_Hire:=T.cl_Hire
  have zn_Hire_whole:=T.na_Hire_whole
  have zc_Keeper:=T.cl_Keeper
  have zn_Keeper_world:=T.na_Keeper_world
  refine⟨_,(j03 (j0a (j1h (j00 (j0p j2q (j0p j5q j08 (j0l (j0l (pv 0) rfl) rfl)) j08) (j00 (j0l (j0l (pv 0) rfl) rfl) j01))))),?_⟩
  obtain⟨dx,wo,dw,h2,h3⟩:=hB.ex
  walk_at "v"
  walk_at "v"
  walk_at "v"
  exact hq
end Nh
namespace Ns
def j4k (a:Adr):Sp:=fun vs H Q _=>∃ (r:Addr) (ss ts:List Str) (z:Int),vs=[.ref r]∧ShelfAt a H r ss ts z∧∀ p H',H p=none→H' p=some (.tup [.int (2 * (ss.length:Nat)-1),.int (ss.length:Nat)])→Ext H H'→Q (.ref p) H'
theorem ok_Front_factor (T:Txt K mg a):FnOk P w K mg base (CXU P w) 1 a.f_z30 a.d_z30 ["self"] (j4k a):=by
 refine T.F_z30.okU jf2 (fun vs H Q E h=>?_) (fun cdv A outer s H vs Q E hr h=>?_)
 ·obtain⟨r,ss,ts,z,rfl,hB,hq⟩:=h
  rfl
 ·obtain⟨r,ss,ts,z,rfl,hB,hq⟩:=h
  have zc_Both:=T.cl_Both
  have zn_Both_standing:=T.na_Both_standing
  have zc_Buyer:=T.cl_Buyer
  have zn_Buyer_standing:=T.na_Buyer_standing
  have zc_Changer:=T.cl_Changer
  have zn_Changer_standing:=T.na_Changer_standing
  have zc_Filler:=T.cl_Filler
  have zn_Filler_standing:=T.na_Filler_standing
  have zc_Front:=T.cl_Front
  have zn_Front_standing:=T.na_Front_standing
  have zc_Keeper:=T.cl_Keeper
  have zn_Keeper_standing:=T.na_Keeper_standing
  refine⟨_,(j02 (j0z (i:=1) jf2.nd rfl (by first | exact Or.inl rfl | exact Or.inr rfl) (j07 j1w (by rfl) T.n_len PySem.boot_len (j00 (j0l (pv 0) rfl) j01)))
   (j03 (j0a (j1h (j00 (j0p j2q (j0p j5q j08 (pv 1)) j08) (j00 (pv 1) j01)))))),?_⟩
  obtain⟨dx,wo,dw,st,tp,h1,h2,h3,h4⟩:=hB.ex
  walk_at "v"
  refine j0t h3 ?_
  rw[List.length_map]
  walk_at "v"
  exact hq
end Ns
namespace Nl
def j5c (a:Adr):Sp:=fun vs H Q _=>∃ (r:Addr) (ns:List Int) (z:Int),vs=[.ref r]∧LineAt a a.c_Both H r ns z∧∀ p H',H p=none→H' p=some (.tup [.int ns.length,.int 1])→Ext H H'→Q (.ref p) H'
theorem ok_Both_factor (T:Txt K mg a):FnOk P w K mg base (CXU P w) 1 a.f_z42 a.d_z42 ["self"] (j5c a):=by
 refine T.F_z42.okU sc_z42 (fun vs H Q E h=>?_) (fun cdv A outer s H vs Q E hr h=>?_)
 ·obtain⟨r,ns,z,rfl,hB,hq⟩:=h
  rfl
 ·obtain⟨r,ns,z,rfl,hB,hq⟩:=h
  have zc_Both:=T.cl_Both
  have zn_Both_standing:=T.na_Both_standing
  have zc_Buyer:=T.cl_Buyer
  have zn_Buyer_standing:=T.na_Buyer_standing
  have zc_Changer:=T.cl_Changer
  have zn_Changer_standing:=T.na_Changer_standing
  have zc_Filler:=T.cl_Filler
  have zn_Filler_standing:=T.na_Filler_standing
  have zc_Front:=T.cl_Front
  have zn_Front_standing:=T.na_Front_standing
  have zc_Keeper:=T.cl_Keeper
  have zn_Keeper_standing:=T.na_Keeper_standing
  refine⟨_,(j03 (j0a (j1h (j00 (j07 j1w (by rfl) T.n_len PySem.boot_len (j00 (j0l (pv 0) rfl) j01)) (j00 j08 j01))))),?_⟩
  obtain⟨dx,wo,dw,st,h1,h2,h3⟩:=hB.ex
  walk_at "v"
  refine j0t h3 ?_
  rw[List.length_map]
  walk_at "v"
  exact hq
end Nl
namespace Nb
def sp_Rule_paid (a:Adr):Sp:=fun vs H Q _=>∃ (r:Addr) (R z:Int) (ps ss:List Int),vs=[.ref r]∧BagAt a H r R ps ss z∧Q (.int z) H
theorem ok_Rule_paid (T:Txt K mg a):FnOk P w K mg base (CXU P w) 1 a.f_z68 a.d_z68 ["self"] (sp_Rule_paid a):=by
 refine T.F_z68.okU j8a (fun vs H Q E h=>?_) (fun cdv A outer s H vs Q E hr h=>?_)
 ·obtain⟨r,R,z,ps,ss,rfl,hB,hq⟩:=h
  rfl
 ·obtain⟨r,R,z,ps,ss,rfl,hB,hq⟩:=h
  have zc_Both:=T.cl_Both
  have zn_Both_spent:=T.na_Both_spent
  have zc_Buyer:=T.cl_Buyer
  have zn_Buyer_spent:=T.na_Buyer_spent
  have zc_Changer:=T.cl_Changer
  have zn_Changer_spent:=T.na_Changer_spent
  have zc_Filler:=T.cl_Filler
  have zn_Filler_spent:=T.na_Filler_spent
  have zc_Front:=T.cl_Front
  have zn_Front_spent:=T.na_Front_spent
  have zc_Keeper:=T.cl_Keeper
  have zn_Keeper_spent:=T.na_Keeper_spent
  refine⟨_,(j03 (j0a (j0l (pv 0) rfl))),?_⟩
  obtain⟨dx,wo,dw,st,q,h1,h2,h3,h4⟩:=hB.ex
  walk_at "v"
  exact hq
end Nb
namespace Nk
def sp_Rule_paid (a:Adr):Sp:=fun vs H Q _=>∃ (r:Addr) (row:List Str) (z:Int),vs=[.ref r]∧KeepAt a H r row z∧Q (.int z) H
theorem ok_Rule_paid (T:Txt K mg a):FnOk P w K mg base (CXU P w) 1 a.f_z68 a.d_z68 ["self"] (sp_Rule_paid a):=by
 refine T.F_z68.okU j8a (fun vs H Q E h=>?_) (fun cdv A outer s H vs Q E hr h=>?_)
 ·obtain⟨r,row,z,rfl,hB,hq⟩:=h
  rfl
 ·obtain⟨r,row,z,rfl,hB,hq⟩:=h
  have zc_Both:=T.cl_Both
  have zn_Both_spent:=T.na_Both_spent
  have zc_Buyer:=T.cl_Buyer
  have zn_Buyer_spent:=T.na_Buyer_spent
  have zc_Changer:=T.cl_Changer
  have zn_Changer_spent:=T.na_Changer_spent
  have zc_Filler:=T.cl_Filler
  have zn_Filler_spent:=T.na_Filler_spent
  have zc_Front:=T.cl_Front
  have zn_Front_spent:=T.na_Front_spent
  have zc_Keeper:=T.cl_Keeper
  have zn_Keeper_spent:=T.na_Keeper_spent
  refine⟨_,(j03 (j0a (j0l (pv 0) rfl))),?_⟩
  obtain⟨dx,wo,dw,st,q,ss,k⟩:=hB.ex
  have h1:=k.hr
  walk_at "v"
  exact hq
end Nk
namespace Nw
def sp_Rule_paid (a:Adr):Sp:=fun vs H Q _=>∃ (r:Addr) (ns:List Int) (h t z:Int),vs=[.ref r]∧WaysAt a H r ns h t z∧Q (.int z) H
theorem ok_Rule_paid (T:Txt K mg a):FnOk P w K mg base (CXU P w) 1 a.f_z68 a.d_z68 ["self"] (sp_Rule_paid a):=by
 refine T.F_z68.okU j8a (fun vs H Q E h=>?_) (fun cdv A outer s H vs Q E hr h=>?_)
 ·obtain⟨r,ns,h,t,z,rfl,hB,hq⟩:=h
  rfl
 ·obtain⟨r,ns,h,t,z,rfl,hB,hq⟩:=h
  have zc_Both:=T.cl_Both
  have zn_Both_spent:=T.na_Both_spent
  have zc_Buyer:=T.cl_Buyer
  have zn_Buyer_spent:=T.na_Buyer_spent
  have zc_Changer:=T.cl_Changer
  have zn_Changer_spent:=T.na_Changer_spent
  have zc_Filler:=T.cl_Filler
  have zn_Filler_spent:=T.na_Filler_spent
  have zc_Front:=T.cl_Front
  have zn_Front_spent:=T.na_Front_spent
  have zc_Keeper:=T.cl_Keeper
  have zn_Keeper_spent:=T.na_Keeper_spent
  refine⟨_,(j03 (j0a (j0l (pv 0) rfl))),?_⟩
  obtain⟨dx,wo,dw,q,h1,h2,h3⟩:=hB.ex
  walk_at "v"
  exact hq
end Nw
namespace Nh
def sp_Rule_paid (a:Adr):Sp:=fun vs H Q _=>∃ r W st z,vs=[.ref r]∧BuyAt a H r W st z∧Q (.int z) H
theorem ok_Rule_paid (T:Txt K mg a):FnOk P w K mg base (CXU P w) 1 a.f_z68 a.d_z68 ["self"] (sp_Rule_paid a):=by
 refine T.F_z68.okU j8a (fun vs H Q E h=>?_) (fun cdv A outer s H vs Q E hr h=>?_)
 ·obtain⟨r,W,st,z,rfl,hB,hq⟩:=h
  rfl
 ·obtain⟨r,W,st,z,rfl,hB,hq⟩:=h
  have zc_Both:=T.cl_Both
  have zn_Both_spent:=T.na_Both_spent
  have zc_Buyer:=T.cl_Buyer
  have zn_Buyer_spent:=T.na_Buyer_spent
  have zc_Changer:=T.cl_Changer
  have zn_Changer_spent:=T.na_Changer_spent
  have zc_Filler:=T.cl_Filler
  have zn_Filler_spent:=T.na_Filler_spent
  have zc_Front:=T.cl_Front
  have zn_Front_spent:=T.na_Front_spent
  have zc_Keeper:=T.cl_Keeper
  have zn_Keeper_spent:=T.na_Keeper_spent
  refine⟨_,(j03 (j0a (j0l (pv 0) rfl))),?_⟩
  obtain⟨dx,wo,dw,h2,h3⟩:=hB.ex
  walk_at "v"
  exact hq
end Nh
namespace Ns
def sp_Rule_paid (a:Adr):Sp:=fun vs H Q _=>∃ (r:Addr) (ss ts:List Str) (z:Int),vs=[.ref r]∧ShelfAt a H r ss ts z∧Q (.int z) H
theorem ok_Rule_paid (T:Txt K mg a):FnOk P w K mg base (CXU P w) 1 a.f_z68 a.d_z68 ["self"] (sp_Rule_paid a):=by
 refine T.F_z68.okU j8a (fun vs H Q E h=>?_) (fun cdv A outer s H vs Q E hr h=>?_)
 ·obtain⟨r,ss,ts,z,rfl,hB,hq⟩:=h
  rfl
 ·obtain⟨r,ss,ts,z,rfl,hB,hq⟩:=h
  have zc_Both:=T.cl_Both
  have zn_Both_spent:=T.na_Both_spent
  have zc_Buyer:=T.cl_Buyer
  have zn_Buyer_spent:=T.na_Buyer_spent
  have zc_Changer:=T.cl_Changer
  have zn_Changer_spent:=T.na_Changer_spent
  have zc_Filler:=T.cl_Filler
  have zn_Filler_spent:=T.na_Filler_spent
  have zc_Front:=T.cl_Front
  have zn_Front_spent:=T.na_Front_spent
  have zc_Keeper:=T.cl_Keeper
  have zn_Keeper_spent:=T.na_Keeper_spent
  refine⟨_,(j03 (j0a (j0l (pv 0) rfl))),?_⟩
  obtain⟨dx,wo,dw,st,tp,h1,h2,h3,h4⟩:=hB.ex
  walk_at "v"
  exact hq
end Ns
namespace Nl
def sp_Rule_paid (a:Adr):Sp:=fun vs H Q _=>∃ (r:Addr) (ns:List Int) (z:Int),vs=[.ref r]∧LineAt a a.c_Both H r ns z∧Q (.int z) H
theorem ok_Rule_paid (T:Txt K mg a):FnOk P w K mg base (CXU P w) 1 a.f_z68 a.d_z68 ["self"] (sp_Rule_paid a):=by
 refine T.F_z68.okU j8a (fun vs H Q E h=>?_) (fun cdv A outer s H vs Q E hr h=>?_)
 ·obtain⟨r,ns,z,rfl,hB,hq⟩:=h
  rfl
 ·obtain⟨r,ns,z,rfl,hB,hq⟩:=h
  have zc_Both:=T.cl_Both
  have zn_Both_spent:=T.na_Both_spent
  have zc_Buyer:=T.cl_Buyer
  have zn_Buyer_spent:=T.na_Buyer_spent
  have zc_Changer:=T.cl_Changer
  have zn_Changer_spent:=T.na_Changer_spent
  have zc_Filler:=T.cl_Filler
  have zn_Filler_spent:=T.na_Filler_spent
  have zc_Front:=T.cl_Front
  have zn_Front_spent:=T.na_Front_spent
  have zc_Keeper:=T.cl_Keeper
  have zn_Keeper_spent:=T.na_Keeper_spent
  refine⟨_,(j03 (j0a (j0l (pv 0) rfl))),?_⟩
  obtain⟨dx,wo,dw,st,h1,h2,h3⟩:=hB.ex
  walk_at "v"
  exact hq
end Nl
namespace Nb
def sp_Rule_state (a:Adr):Sp:=fun vs H Q _=>∃ (r:Addr) (R z:Int) (ps ss:List Int),vs=[.ref r]∧BagAt a H r R ps ss z∧∀ st,H st=some (.tup (ss.map V.int))→Q (.ref st) H
theorem ok_Rule_state (T:Txt K mg a):FnOk P w K mg base (CXU P w) 1 a.f_z56 a.d_z56 ["self"] (sp_Rule_state a):=by
 refine T.F_z56.okU j8b (fun vs H Q E h=>?_) (fun cdv A outer s H vs Q E hr h=>?_)
 ·obtain⟨r,R,z,ps,ss,rfl,hB,hq⟩:=h
  rfl
 ·obtain⟨r,R,z,ps,ss,rfl,hB,hq⟩:=h
  have zc_Both:=T.cl_Both
  have zn_Both_standing:=T.na_Both_standing
  have zc_Buyer:=T.cl_Buyer
  have zn_Buyer_standing:=T.na_Buyer_standing
  have zc_Changer:=T.cl_Changer
  have zn_Changer_standing:=T.na_Changer_standing
  have zc_Filler:=T.cl_Filler
  have zn_Filler_standing:=T.na_Filler_standing
  have zc_Front:=T.cl_Front
  have zn_Front_standing:=T.na_Front_standing
  have zc_Keeper:=T.cl_Keeper
  have zn_Keeper_standing:=T.na_Keeper_standing
  refine⟨_,(j03 (j0a (j0l (pv 0) rfl))),?_⟩
  obtain⟨dx,wo,dw,st,q,h1,h2,h3,h4⟩:=hB.ex
  walk_at "v"
  exact hq st h3
end Nb
namespace Nk
def sp_Rule_state (a:Adr):Sp:=fun vs H Q _=>∃ (r:Addr) (row:List Str) (z:Int),vs=[.ref r]∧KeepAt a H r row z∧∀ st (ss:List Str),ss.Perm row→sortedS ss=true→H st=some (.tup (ss.map V.str))→Q (.ref st) H
theorem ok_Rule_state (T:Txt K mg a):FnOk P w K mg base (CXU P w) 1 a.f_z56 a.d_z56 ["self"] (sp_Rule_state a):=by
 refine T.F_z56.okU j8b (fun vs H Q E h=>?_) (fun cdv A outer s H vs Q E hr h=>?_)
 ·obtain⟨r,row,z,rfl,hB,hq⟩:=h
  rfl
 ·obtain⟨r,row,z,rfl,hB,hq⟩:=h
  have zc_Both:=T.cl_Both
  have zn_Both_standing:=T.na_Both_standing
  have zc_Buyer:=T.cl_Buyer
  have zn_Buyer_standing:=T.na_Buyer_standing
  have zc_Changer:=T.cl_Changer
  have zn_Changer_standing:=T.na_Changer_standing
  have zc_Filler:=T.cl_Filler
  have zn_Filler_standing:=T.na_Filler_standing
  have zc_Front:=T.cl_Front
  have zn_Front_standing:=T.na_Front_standing
  have zc_Keeper:=T.cl_Keeper
  have zn_Keeper_standing:=T.na_Keeper_standing
  refine⟨_,(j03 (j0a (j0l (pv 0) rfl))),?_⟩
  obtain⟨dx,wo,dw,st,q,ss,k⟩:=hB.ex
  have h1:=k.hr
  walk_at "v"
  exact hq st ss k.pm k.so k.hs
end Nk
namespace Nw
def sp_Rule_state (a:Adr):Sp:=fun vs H Q _=>∃ (r:Addr) (ns:List Int) (h t z:Int),vs=[.ref r]∧WaysAt a H r ns h t z∧Q (.int h) H
theorem ok_Rule_state (T:Txt K mg a):FnOk P w K mg base (CXU P w) 1 a.f_z56 a.d_z56 ["self"] (sp_Rule_state a):=by
 refine T.F_z56.okU j8b (fun vs H Q E h=>?_) (fun cdv A outer s H vs Q E hr h=>?_)
 ·obtain⟨r,ns,h,t,z,rfl,hB,hq⟩:=h
  rfl
 ·obtain⟨r,ns,h,t,z,rfl,hB,hq⟩:=h
  have zc_Both:=T.cl_Both
  have zn_Both_standing:=T.na_Both_standing
  have zc_Buyer:=T.cl_Buyer
  have zn_Buyer_standing:=T.na_Buyer_standing
  have zc_Changer:=T.cl_Changer
  have zn_Changer_standing:=T.na_Changer_standing
  have zc_Filler:=T.cl_Filler
  have zn_Filler_standing:=T.na_Filler_standing
  have zc_Front:=T.cl_Front
  have zn_Front_standing:=T.na_Front_standing
  have zc_Keeper:=T.cl_Keeper
  have zn_Keeper_standing:=T.na_Keeper_standing
  refine⟨_,(j03 (j0a (j0l (pv 0) rfl))),?_⟩
  obtain⟨dx,wo,dw,q,h1,h2,h3⟩:=hB.ex
  walk_at "v"
  exact hq
end Nw
namespace Nh
def sp_Rule_state (a:Adr):Sp:=fun vs H Q _=>∃ r W st z,vs=[.ref r]∧BuyAt a H r W st z∧Q (.int st) H
theorem ok_Rule_state (T:Txt K mg a):FnOk P w K mg base (CXU P w) 1 a.f_z56 a.d_z56 ["self"] (sp_Rule_state a):=by
 refine T.F_z56.okU j8b (fun vs H Q E h=>?_) (fun cdv A outer s H vs Q E hr h=>?_)
 ·obtain⟨r,W,st,z,rfl,hB,hq⟩:=h
  rfl
 ·obtain⟨r,W,st,z,rfl,hB,hq⟩:=h
  have zc_Both:=T.cl_Both
  have zn_Both_standing:=T.na_Both_standing
  have zc_Buyer:=T.cl_Buyer
  have zn_Buyer_standing:=T.na_Buyer_standing
  have zc_Changer:=T.cl_Changer
  have zn_Changer_standing:=T.na_Changer_standing
  have zc_Filler:=T.cl_Filler
  have zn_Filler_standing:=T.na_Filler_standing
  have zc_Front:=T.cl_Front
  have zn_Front_standing:=T.na_Front_standing
  have zc_Keeper:=T.cl_Keeper
  have zn_Keeper_standing:=T.na_Keeper_standing
  refine⟨_,(j03 (j0a (j0l (pv 0) rfl))),?_⟩
  obtain⟨dx,wo,dw,h2,h3⟩:=hB.ex
  walk_at "v"
  exact hq
end Nh
namespace Ns
def sp_Rule_state (a:Adr):Sp:=fun vs H Q _=>∃ (r:Addr) (ss ts:List Str) (z:Int),vs=[.ref r]∧ShelfAt a H r ss ts z∧∀ st,H st=some (.tup (ss.map V.str))→Q (.ref st) H
theorem ok_Rule_state (T:Txt K mg a):FnOk P w K mg base (CXU P w) 1 a.f_z56 a.d_z56 ["self"] (sp_Rule_state a):=by
 refine T.F_z56.okU j8b (fun vs H Q E h=>?_) (fun cdv A outer s H vs Q E hr h=>?_)
 ·obtain⟨r,ss,ts,z,rfl,hB,hq⟩:=h
  rfl
 ·obtain⟨r,ss,ts,z,rfl,hB,hq⟩:=h
  have zc_Both:=T.cl_Both
  have zn_Both_standing:=T.na_Both_standing
  have zc_Buyer:=T.cl_Buyer
  have zn_Buyer_standing:=T.na_Buyer_standing
  have zc_Changer:=T.cl_Changer
  have zn_Changer_standing:=T.na_Changer_standing
  have zc_Filler:=T.cl_Filler
  have zn_Filler_standing:=T.na_Filler_standing
  have zc_Front:=T.cl_Front
  have zn_Front_standing:=T.na_Front_standing
  have zc_Keeper:=T.cl_Keeper
  have zn_Keeper_standing:=T.na_Keeper_standing
  refine⟨_,(j03 (j0a (j0l (pv 0) rfl))),?_⟩
  obtain⟨dx,wo,dw,st,tp,h1,h2,h3,h4⟩:=hB.ex
  walk_at "v"
  exact hq st h3
end Ns
namespace Nl
def sp_Rule_state (a:Adr):Sp:=fun vs H Q _=>∃ (r:Addr) (ns:List Int) (z:Int),vs=[.ref r]∧LineAt a a.c_Both H r ns z∧∀ st,H st=some (.tup (ns.map V.int))→Q (.ref st) H
theorem ok_Rule_state (T:Txt K mg a):FnOk P w K mg base (CXU P w) 1 a.f_z56 a.d_z56 ["self"] (sp_Rule_state a):=by
 refine T.F_z56.okU j8b (fun vs H Q E h=>?_) (fun cdv A outer s H vs Q E hr h=>?_)
 ·obtain⟨r,ns,z,rfl,hB,hq⟩:=h
  rfl
 ·obtain⟨r,ns,z,rfl,hB,hq⟩:=h
  have zc_Both:=T.cl_Both
  have zn_Both_standing:=T.na_Both_standing
  have zc_Buyer:=T.cl_Buyer
  have zn_Buyer_standing:=T.na_Buyer_standing
  have zc_Changer:=T.cl_Changer
  have zn_Changer_standing:=T.na_Changer_standing
  have zc_Filler:=T.cl_Filler
  have zn_Filler_standing:=T.na_Filler_standing
  have zc_Front:=T.cl_Front
  have zn_Front_standing:=T.na_Front_standing
  have zc_Keeper:=T.cl_Keeper
  have zn_Keeper_standing:=T.na_Keeper_standing
  refine⟨_,(j03 (j0a (j0l (pv 0) rfl))),?_⟩
  obtain⟨dx,wo,dw,st,h1,h2,h3⟩:=hB.ex
  walk_at "v"
  exact hq st h3
end Nl
def j4l (a:Adr):Sp:=fun vs H Q _=>∃ (g:G83) (wd:Str) (r:Addr),vs=[.str wd,.ref r]∧wd=g.word∧g.rs.at_ a H r∧Q (.bl true) H
theorem j4m (T:Txt K mg a):FnOk P w K mg base (CXU P w) 1 a.f_z39 a.d_z39 ["_law_word","_law_rule"] (j4l a):=by
 refine T.F_z39.okU sc_z39 (fun vs H Q E h=>?_) (fun cdv A outer s H vs Q E hr h=>?_)
 ·obtain⟨g,wd,r,rfl,hwd,B,hq⟩:=h
  rfl
 ·obtain⟨g,wd,r,rfl,hwd,B,hq⟩:=h
  refine⟨_,(j02 (j0u (j0g (oEq hr) (pv 0) j0q (j0m _)) (j03 (j0a (j07 j28 (by rfl) T.n_isinstance PyProof.Rows.boot_isinstance (j00 (pv 1) (j00 (j12 (v:=V.ref a.c_Both) (by rfl) T.m_Both rfl) j01))))) j0c)
   (j02 (j0u (j0g (oEq hr) (pv 0) j0q (j0m _)) (j03 (j0a (j07 j28 (by rfl) T.n_isinstance PyProof.Rows.boot_isinstance (j00 (pv 1) (j00 (j12 (v:=V.ref a.c_Front) (by rfl) T.m_Front rfl) j01))))) j0c)
   (j02 (j0u (j0g (oEq hr) (pv 0) j0q (j0m _)) (j03 (j0a (j07 j28 (by rfl) T.n_isinstance PyProof.Rows.boot_isinstance (j00 (pv 1) (j00 (j12 (v:=V.ref a.c_Buyer) (by rfl) T.m_Buyer rfl) j01))))) j0c)
   (j02 (j0u (j0g (oEq hr) (pv 0) j0q (j0m _)) (j03 (j0a (j07 j28 (by rfl) T.n_isinstance PyProof.Rows.boot_isinstance (j00 (pv 1) (j00 (j12 (v:=V.ref a.c_Changer) (by rfl) T.m_Changer rfl) j01))))) j0c)
   (j02 (j0u (j0g (oEq hr) (pv 0) j0q (j0m _)) (j03 (j0a (j07 j28 (by rfl) T.n_isinstance PyProof.Rows.boot_isinstance (j00 (pv 1) (j00 (j12 (v:=V.ref a.c_Keeper) (by rfl) T.m_Keeper rfl) j01))))) j0c)
   (j03 (j0a (j07 j28 (by rfl) T.n_isinstance PyProof.Rows.boot_isinstance (j00 (pv 1) (j00 (j12 (v:=V.ref a.c_Filler) (by rfl) T.m_Filler rfl) j01)))))))))),?_⟩
  cases g with
  | line ns =>
   have hwd:wd=Str.ofString "line":=hwd
   obtain⟨dx,wo,dw,sp,h1,h2,h3⟩:=Nl.LineAt.ex B
   walk_at "v"
   refine j09 ?_
   rw[show decide (wd=Str.ofString "line")=true by rw[hwd];decide]
   walk_at "v"
   exact j2e h1 T.cl_Both T.ic_Both_Both hq
  | shelf ss =>
   have hwd:wd=Str.ofString "shelf":=hwd
   obtain⟨dx,wo,dw,sp,tp,h1,h2,h3,h4⟩:=Ns.ShelfAt.ex B
   walk_at "v"
   refine j09 ?_
   rw[show decide (wd=Str.ofString "line")=false by rw[hwd];decide]
   walk_at "v"
   refine j09 ?_
   rw[show decide (wd=Str.ofString "shelf")=true by rw[hwd];decide]
   walk_at "v"
   exact j2e h1 T.cl_Front T.ic_Front_Front hq
  | hire W =>
   have hwd:wd=Str.ofString "hire":=hwd
   obtain⟨dx,wo,dw,h1,h2⟩:=Nh.BuyAt.ex B
   walk_at "v"
   refine j09 ?_
   rw[show decide (wd=Str.ofString "line")=false by rw[hwd];decide]
   walk_at "v"
   refine j09 ?_
   rw[show decide (wd=Str.ofString "shelf")=false by rw[hwd];decide]
   walk_at "v"
   refine j09 ?_
   rw[show decide (wd=Str.ofString "hire")=true by rw[hwd];decide]
   walk_at "v"
   exact j2e h1 T.cl_Buyer T.ic_Buyer_Buyer hq
  | ways n t h =>
   have hwd:wd=Str.ofString "ways":=hwd
   obtain⟨dx,wo,dw,q,h1,h2,h3⟩:=Nw.WaysAt.ex B
   walk_at "v"
   refine j09 ?_
   rw[show decide (wd=Str.ofString "line")=false by rw[hwd];decide]
   walk_at "v"
   refine j09 ?_
   rw[show decide (wd=Str.ofString "shelf")=false by rw[hwd];decide]
   walk_at "v"
   refine j09 ?_
   rw[show decide (wd=Str.ofString "hire")=false by rw[hwd];decide]
   walk_at "v"
   refine j09 ?_
   rw[show decide (wd=Str.ofString "ways")=true by rw[hwd];decide]
   walk_at "v"
   exact j2e h1 T.cl_Changer T.ic_Changer_Changer hq
  | store ss =>
   have hwd:wd=Str.ofString "store":=hwd
   obtain⟨dx,wo,dw,sp,q,ss0,kk⟩:=Nk.KeepAt.ex B
   have h1:=kk.hr
   have h2:=kk.hw
   walk_at "v"
   refine j09 ?_
   rw[show decide (wd=Str.ofString "line")=false by rw[hwd];decide]
   walk_at "v"
   refine j09 ?_
   rw[show decide (wd=Str.ofString "shelf")=false by rw[hwd];decide]
   walk_at "v"
   refine j09 ?_
   rw[show decide (wd=Str.ofString "hire")=false by rw[hwd];decide]
   walk_at "v"
   refine j09 ?_
   rw[show decide (wd=Str.ofString "ways")=false by rw[hwd];decide]
   walk_at "v"
   refine j09 ?_
   rw[show decide (wd=Str.ofString "store")=true by rw[hwd];decide]
   walk_at "v"
   exact j2e h1 T.cl_Keeper T.ic_Keeper_Keeper hq
  | bags R =>
   have hwd:wd=Str.ofString "bags":=hwd
   obtain⟨ss0,B0,pm0,pw0⟩:=B
   obtain⟨dx,wo,dw,sp,q,h1,h2,h3,h4⟩:=Nb.BagAt.ex B0
   walk_at "v"
   refine j09 ?_
   rw[show decide (wd=Str.ofString "line")=false by rw[hwd];decide]
   walk_at "v"
   refine j09 ?_
   rw[show decide (wd=Str.ofString "shelf")=false by rw[hwd];decide]
   walk_at "v"
   refine j09 ?_
   rw[show decide (wd=Str.ofString "hire")=false by rw[hwd];decide]
   walk_at "v"
   refine j09 ?_
   rw[show decide (wd=Str.ofString "ways")=false by rw[hwd];decide]
   walk_at "v"
   refine j09 ?_
   rw[show decide (wd=Str.ofString "store")=false by rw[hwd];decide]
   walk_at "v"
   exact j2e h1 T.cl_Filler T.ic_Filler_Filler hq
namespace Nb
def j3z (a:Adr):Sp:=fun vs H Q _=>∃ (w dw p:Addr) (R:Int) (ss:List Int),vs=[.ref w,.ref p]∧H w=some (.ins a.c_Bags dw [("room",.int R)])∧H p=some (.tup (ss.map V.int))∧ss.length≤60∧(∀ x∈ss,1≤x∧x≤R)∧ss.Pairwise (·≤·)∧∀ H',Ext H H'→Q (.bl true) H'
theorem ok_Bags_is_state (T:Txt K mg a):FnOk P w K mg base (CXU P w) 3 a.f_z12 a.d_z12 ["self","thing"] (j3z a):=by
 refine T.F_z12.okU sc_z12 (fun vs H Q E h=>?_) (fun cdv A outer s H vs Q E hr h=>?_)
 ·obtain⟨w,dw,p,R,ss,rfl,hw,hp,hl,hb,hs,hq⟩:=h
  rfl
 ·obtain⟨w,dw,p,R,ss,rfl,hw,hp,hl,hb,hs,hq⟩:=h
  have zc_Bags:=T.cl_Bags
  have zn_Bags_room:=T.na_Bags_room
  refine⟨_,(j02 (j0u (PW.pt (j34 (j0s (ptT (j07 j28 (by rfl) T.n_isinstance PyProof.Rows.boot_isinstance (j00 (pv 1) (j00 (j1b (v:=V.ty "tuple") (by rfl) T.n_tuple PyProof.Rows.boot_tuple rfl) j01))) (fun _=>rfl))) (j1k (j0g jfd (j07 j1w (by rfl) T.n_len PySem.boot_len (j00 (pv 1) j01)) (j12 (v:=V.int 500) (by rfl) T.m_MOST_BAGS ⟨_,rfl⟩) (j0m _))))) (j03 (j0a j30)) j0c)
   (j02 (j0u (j0s (ptT (j07 (cAll rfl) (by rfl) T.n_all PyProof.Rows.boot_all (j00 (j1f (["load"]:List Str) (["self"]:List Str) [0] rfl ⟨rfl,by decide +kernel,by decide +kernel,by rfl,⟨⟨rfl,by first | exact Or.inl rfl | exact Or.inr rfl,by first | exact Or.inl rfl | exact Or.inr rfl⟩,trivial⟩⟩ (j4y (pv 1)) (fun _ _ _ _=>⟨(j0w (i:=0) (by show ((["load"]:List Str)++(["self"]:List Str)).Nodup;decide +kernel) rfl (by first | exact Or.inl rfl | exact Or.inr rfl)),(show PTs _ [] [] from trivial),(j0f (j1e T) (hr.mono (by decide)) (by rfl) T.m_z11 T.F_z11.kp T.b_z11 .nil j0d (j00 (pv 0) (j00 (j0l (pv 1) rfl) j01)))⟩)) j01)) (fun _=>rfl))) (j03 (j0a j30)) j0c)
   (j03 (j0a (j1n (oEq hr) (j0r ja4 (by rfl) T.n_list PyProof.Rows.boot_list (j00 (pv 1) j01)) (j07 j37 (by rfl) T.n_sorted PyProof.Rows.boot_sorted (j00 (pv 1) j01)) (j0m _)))))),?_⟩
  walk_at "v"
  refine j86 (HasK.t hp) ?_
  walk_at "v"
  refine j0t hp ?_
  rw[List.length_map]
  walk_at "v"
  refine iteD (fun c=>absurd c (by omega)) (fun _=>?_)
  walk_at "v"
  refine⟨p,rfl,⟨_,SqT.of hp⟩,fun acc hn _ _ _ _=>j55 V.int V.bl (fun _=>true) (SqT.of hp) (by omega) hn (fun i x H2 Y hx e hY=>?_) fun H2 e ha=>?_⟩
  ·have hx':=hb x (List.mem_of_getElem? hx)
   have hw2:=e _ _ hw
   walk_at "v"
   refine⟨.int x,.int,R,rfl,rfl,?_⟩
   rw[show fot R (.int x)=true by show (decide (1≤x) && decide (x≤R))=true;rw[decide_eq_true hx'.1,decide_eq_true hx'.2];rfl]
   exact hY _ Ext.rfl'
  walk_at "v"
  refine jed (bs:=ss.map fun _=>true) ha ?_
  rw[show (ss.map fun _=>true).all id=true by rw[List.all_map,List.all_eq_true];intro x _;rfl]
  walk_at "v"
  refine j3j (e _ _ hp) fun l H3 n3 h3 e3=>?_
  walk_at "v"
  refine jb0 (e3 _ _ (e _ _ hp)) (by omega) fun l2 ns' H4 n4 hpm hs' h4 e4=>?_
  obtain rfl:=sorted_eq hpm hs' hs
  walk_at "v"
  refine jef (e4 _ _ h3) h4 ?_
  rw[decide_eq_true rfl]
  exact hq H4 ((e.tr e3).tr e4)
end Nb
def j6v:Sp:=fun vs H Q _=>∃ (p:Addr) (ss:List Str),vs=[.ref p]∧H p=some (.tup (ss.map V.str))∧(∀ s∈ss,nmS s=true)∧ss.Nodup∧ss.length≤1000∧∀ H',Ext H H'→Q (.bl true) H'
theorem j2d (T:Txt K mg a):FnOk P w K mg base (CXU P w) 2 a.f_z70 a.d_z70 ["thing"] (j6v):=by
 refine T.F_z70.okU sc_z70 (fun vs H Q E h=>?_) (fun cdv A outer s H vs Q E hr h=>?_)
 ·obtain⟨p,ss,rfl,hp,hn',hd,hl,hq⟩:=h
  rfl
 ·obtain⟨p,ss,rfl,hp,hn',hd,hl,hq⟩:=h
  refine⟨_,(j02 (j0u (PW.pt (j34 (j0s (ptT (j07 j28 (by rfl) T.n_isinstance PyProof.Rows.boot_isinstance (j00 (pv 0) (j00 (j1b (v:=V.ty "tuple") (by rfl) T.n_tuple PyProof.Rows.boot_tuple rfl) j01))) (fun _=>rfl))) (j1k (j0s (ptT (j07 (cAll rfl) (by rfl) T.n_all PyProof.Rows.boot_all (j00 (j1f (["name"]:List Str) ([]:List Str) [] rfl ⟨rfl,by decide +kernel,by decide +kernel,by rfl,trivial⟩ (j4y (pv 0)) (fun _ _ _ _=>⟨(j0w (i:=0) (by show ((["name"]:List Str)++([]:List Str)).Nodup;decide +kernel) rfl (by first | exact Or.inl rfl | exact Or.inr rfl)),(show PTs _ [] [] from trivial),(j0f (j3t T) (hr.mono (by decide)) (by rfl) T.m_z86 T.F_z86.kp T.b_z86 .nil j0d (j00 (pv 0) j01))⟩)) j01)) (fun _=>rfl)))))) (j03 (j0a j30)) j0c)
   (j03 (j0a (j1n (oEq hr) (jay rfl (by rfl) T.n_len (by rfl) T.n_set (j00 (pv 0) j01)) (j07 j1w (by rfl) T.n_len PySem.boot_len (j00 (pv 0) j01)) (j0m _))))),?_⟩
  walk_at "v"
  refine j86 (HasK.t hp) ?_
  walk_at "v"
  refine⟨p,rfl,⟨_,SqT.of hp⟩,fun acc hn _ _ _ _=>j55 V.str V.bl (fun _=>true) (SqT.of hp) (by omega) hn (fun i x H2 Y hx e hY=>?_) fun H2 e ha=>?_⟩
  ·have hx':=hn' x (List.mem_of_getElem? hx)
   walk_at "v"
   refine⟨.str x,.str,rfl,rfl,fun z ez=>by cases ez;exact⟨j7x hx',by have:=j9x hx';omega⟩,fun H3 e3=>?_⟩
   rw[show nmV (.str x)=true from hx']
   exact hY _ e3
  walk_at "v"
  refine jed ha ?_
  have ea:(ss.map fun _=>true).all id=true:=by rw[List.all_eq_true];intro x hx;obtain⟨_,_,rfl⟩:=List.mem_map.mp hx;rfl
  rw[ea]
  walk_at "v"
  refine jcq (e _ _ hp) hl ?_
  walk_at "v"
  refine j0t (e _ _ hp) ?_
  rw[List.length_map,j9n hd]
  walk_at "v"
  rw[show decide ((ss.length:Int)=(ss.length:Int))=true from decide_eq_true rfl]
  exact hq H2 e
namespace Nk
def j3c (a:Adr):Sp:=fun vs H Q _=>∃ (w dw p:Addr) (ss:List Str),vs=[.ref w,.ref p]∧H w=some (.ins a.c_Store dw [("many",.int (ss.length:Nat))])∧H p=some (.tup (ss.map V.str))∧Names ss∧sortedS ss=true∧∀ H',Ext H H'→Q (.bl true) H'
theorem ok_Store_is_state (T:Txt K mg a):FnOk P w K mg base (CXU P w) 3 a.f_z10 a.d_z10 ["self","thing"] (j3c a):=by
 refine T.F_z10.okU sc_z10 (fun vs H Q E h=>?_) (fun cdv A outer s H vs Q E hr h=>?_)
 ·obtain⟨w,dw,p,ss,rfl,hw,hp,hN,hso,hq⟩:=h
  rfl
 ·obtain⟨w,dw,p,ss,rfl,hw,hp,hN,hso,hq⟩:=h
  have zc_Line:=T.cl_Line
  have zn_Line_many:=T.na_Line_many
  have zc_Store:=T.cl_Store
  have zn_Store_many:=T.na_Store_many
  have zc_Ways:=T.cl_Ways
  have zn_Ways_many:=T.na_Ways_many
  refine⟨_,(j03 (j0a (j1t (j0f (j2d T) (hr.mono (by decide)) (by rfl) T.m_z70 T.F_z70.kp T.b_z70 .nil j0d (j00 (pv 1) j01)) (j1t (j1n (oEq hr) (j07 j1w (by rfl) T.n_len PySem.boot_len (j00 (pv 1) j01)) (j0l (pv 0) rfl) (j0m _)) (j1y (j1n (oEq hr) (j0r ja4 (by rfl) T.n_list PyProof.Rows.boot_list (j00 (pv 1) j01)) (j07 j37 (by rfl) T.n_sorted PyProof.Rows.boot_sorted (j00 (pv 1) j01)) (j0m _))))))),?_⟩
  have g8:=hN.hi
  walk_at "v"
  refine⟨p,ss,rfl,hp,hN.nm,hN.nd,by omega,fun H1 e1=>?_⟩
  have hw1:=e1 _ _ hw
  have hp1:=e1 _ _ hp
  walk_at "v"
  refine j0t hp1 ?_
  rw[List.length_map]
  walk_at "v"
  refine iteD (fun _=>?_) (fun q=>(q rfl).elim)
  walk_at "v"
  refine j3j hp1 fun l2 H2 n2 q2 e2=>?_
  walk_at "v"
  refine j3o (e2 _ _ hp1) (by omega) fun l3 s3 H3 n3 p3 o3 q3 e3=>?_
  have:s3=ss:=j2b p3 o3 hso
  subst this
  walk_at "v"
  refine jee (j26 (e3 _ _ q2)) (j26 q3) (jd7 hN.nm) (jd7 hN.nm) (by show D.depthL (s3.map D.str)+1≤20;rw[depS];omega) ?_
  rw[j9y hN.nm]
  exact hq H3 ((e1.tr e2).tr e3)
end Nk
namespace Nw
def j40 (a:Adr):Sp:=fun vs H Q _=>∃ (w dw:Addr) (n h t:Int),vs=[.ref w,.int h]∧H w=some (.ins a.c_Ways dw [("many",.int n),("toll",.int t)])∧0≤h∧h < n∧Q (.bl true) H
theorem ok_Ways_is_state (T:Txt K mg a):FnOk P w K mg base (CXU P w) 2 a.f_z23 a.d_z23 ["self","thing"] (j40 a):=by
 refine T.F_z23.okU sc_z23 (fun vs H Q E h=>?_) (fun cdv A outer s H vs Q E hr h=>?_)
 ·obtain⟨w,dw,n,h,t,rfl,hw,h0,h1,hq⟩:=h
  rfl
 ·obtain⟨w,dw,n,h,t,rfl,hw,h0,h1,hq⟩:=h
  have zc_Line:=T.cl_Line
  have zn_Line_many:=T.na_Line_many
  have zc_Store:=T.cl_Store
  have zn_Store_many:=T.na_Store_many
  have zc_Ways:=T.cl_Ways
  have zn_Ways_many:=T.na_Ways_many
  refine⟨_,(j03 (j0a (j1t (j0f (j10 T) (hr.mono (by decide)) (by rfl) T.m_z6 T.F_z6.kp T.b_z6 .nil j0d (j00 (pv 1) j01)) (j1y (j2r oLeW jd6 j08 (pv 1) (j0l (pv 0) rfl)))))),?_⟩
  walk_at "v"
  refine⟨.int h,.int,rfl,rfl,?_⟩
  walk_at "v"
  rw[decide_eq_true h0]
  walk_at "v"
  rw[decide_eq_true h1]
  exact hq
end Nw
namespace Nh
def st01:V→Bool
 | .int i=>decide (0≤i) && decide (i≤1)
 | _=>false
def j41:Sp:=fun vs H Q _=>∃ r x k,vs=[.ref r,x]∧HasK H x k∧Q (.bl (st01 x)) H
theorem ok_Hire_is_state (T:Txt K mg a):FnOk P w K mg base (CXU P w) 2 a.f_z16 a.d_z16 ["self","thing"] (j41):=by
 refine T.F_z16.okU sc_z16 (fun vs H Q E h=>?_) (fun cdv A outer s H vs Q E hr h=>?_)
 ·obtain⟨r,x,k,rfl,hk,hq⟩:=h
  rfl
 ·obtain⟨r,x,k,rfl,hk,hq⟩:=h
  refine⟨_,(j03 (j0a (j1t (j0f (j10 T) (hr.mono (by decide)) (by rfl) T.m_z6 T.F_z6.kp T.b_z6 .nil j0d (j00 (pv 1) j01)) (j1y (j2r oLeW oLeW j08 (pv 1) j08))))),?_⟩
  walk_at "v"
  refine⟨x,k,rfl,hk,?_⟩
  cases x with
  | int i =>
   cases (show k=.int from hk)
   walk_at "v"
   refine iteD (fun h=>?_) (fun h=>?_)
   ·walk_at "v"
    have e:st01 (.int i)=decide (i≤1):=by show (decide (0≤i) && _)=_;rw[decide_eq_true h,Bool.true_and]
    rw[← e];exact hq
   ·walk_at "v"
    have e:st01 (.int i)=false:=by show (decide (0≤i) && _)=_;rw[decide_eq_false h,Bool.false_and]
    rw[← e];exact hq
  | non=>cases (show k=.non from hk);(walk_at "v");exact hq
  | bl b=>cases (show k=.bl from hk);(walk_at "v");exact hq
  | str b=>cases (show k=.str from hk);(walk_at "v");exact hq
  | ref b =>
   have e:(k == .int)=false:=by rcases hk with⟨_,_,rfl⟩ | ⟨_,_,rfl⟩ | ⟨_,_,rfl⟩ <;> rfl
   rw[e];(walk_at "v");exact hq
  | _=>exact hk.elim
end Nh
namespace Ns
def j3d (a:Adr):Sp:=fun vs H Q _=>∃ (w dw tp p:Addr) (ss ts:List Str),vs=[.ref w,.ref p]∧H w=some (.ins a.c_Shelf dw [("things",.ref tp)])∧H tp=some (.tup (ts.map V.str))∧H p=some (.tup (ss.map V.str))∧Names ss∧ts.Perm ss∧∀ H',Ext H H'→Q (.bl true) H'
theorem ok_Shelf_is_state (T:Txt K mg a):FnOk P w K mg base (CXU P w) 3 a.f_z9 a.d_z9 ["self","thing"] (j3d a):=by
 refine T.F_z9.okU sc_z9 (fun vs H Q E h=>?_) (fun cdv A outer s H vs Q E hr h=>?_)
 ·obtain⟨w,dw,tp,p,ss,ts,rfl,hw,ht,hp,hN,hpm,hq⟩:=h
  rfl
 ·obtain⟨w,dw,tp,p,ss,ts,rfl,hw,ht,hp,hN,hpm,hq⟩:=h
  have zc_Shelf:=T.cl_Shelf
  have zn_Shelf_things:=T.na_Shelf_things
  refine⟨_,(j03 (j0a (j1t (j0f (j2d T) (hr.mono (by decide)) (by rfl) T.m_z70 T.F_z70.kp T.b_z70 .nil j0d (j00 (pv 1) j01)) (j1y (j1n (oEq hr) (j07 j37 (by rfl) T.n_sorted PyProof.Rows.boot_sorted (j00 (pv 1) j01)) (j07 j37 (by rfl) T.n_sorted PyProof.Rows.boot_sorted (j00 (j0l (pv 0) rfl) j01)) (j0m _)))))),?_⟩
  have g8:=hN.hi
  have gl:=hpm.length_eq
  walk_at "v"
  refine⟨p,ss,rfl,hp,hN.nm,hN.nd,by omega,fun H1 e1=>?_⟩
  have hw1:=e1 _ _ hw
  walk_at "v"
  refine j3o (e1 _ _ hp) (by omega) fun l2 s2 H2 n2 p2 o2 q2 e2=>?_
  have hw2:=e2 _ _ hw1
  walk_at "v"
  refine j3o (e2 _ _ (e1 _ _ ht)) (by omega) fun l3 s3 H3 n3 p3 o3 q3 e3=>?_
  have:s3=s2:=j2b ((p3.trans hpm).trans p2.symm) o3 o2
  subst this
  walk_at "v"
  have nm3:∀ s∈s3,nmS s=true:=fun s hs=>hN.nm s (hpm.mem_iff.mp (p3.mem_iff.mp hs))
  refine jee (j26 (e3 _ _ q2)) (j26 q3) (jd7 nm3) (jd7 nm3) (by show D.depthL (s3.map D.str)+1≤20;rw[depS];omega) ?_
  rw[j9y nm3]
  exact hq H3 ((e1.tr e2).tr e3)
end Ns
namespace Nl
def j42 (a:Adr):Sp:=fun vs H Q _=>∃ (w dw p:Addr) (ns:List Int),vs=[.ref w,.ref p]∧H w=some (.ins a.c_Line dw [("many",.int ns.length)])∧H p=some (.tup (ns.map V.int))∧Good ns∧∀ H',Ext H H'→Q (.bl true) H'
theorem ok_Line_is_state (T:Txt K mg a):FnOk P w K mg base (CXU P w) 3 a.f_z19 a.d_z19 ["self","thing"] (j42 a):=by
 refine T.F_z19.okU sc_z19 (fun vs H Q E h=>?_) (fun cdv A outer s H vs Q E hr h=>?_)
 ·obtain⟨w,dw,p,ns,rfl,hw,hp,hg,hq⟩:=h
  rfl
 ·obtain⟨w,dw,p,ns,rfl,hw,hp,hg,hq⟩:=h
  have zc_Line:=T.cl_Line
  have zn_Line_many:=T.na_Line_many
  have zc_Store:=T.cl_Store
  have zn_Store_many:=T.na_Store_many
  have zc_Ways:=T.cl_Ways
  have zn_Ways_many:=T.na_Ways_many
  refine⟨_,(j02 (j0u (PW.pt (j34 (j0s (ptT (j07 j28 (by rfl) T.n_isinstance PyProof.Rows.boot_isinstance (j00 (pv 1) (j00 (j1b (v:=V.ty "tuple") (by rfl) T.n_tuple PyProof.Rows.boot_tuple rfl) j01))) (fun _=>rfl))) (j1k (j0g jd5 (j07 j1w (by rfl) T.n_len PySem.boot_len (j00 (pv 1) j01)) (j0l (pv 0) rfl) (j0m _))))) (j03 (j0a j30)) j0c)
   (j02 (j0u (j0s (ptT (j07 (cAll rfl) (by rfl) T.n_all PyProof.Rows.boot_all (j00 (j1f (["place"]:List Str) ([]:List Str) [] rfl ⟨rfl,by decide +kernel,by decide +kernel,by rfl,trivial⟩ (j4y (pv 1)) (fun _ _ _ _=>⟨(j0w (i:=0) (by show ((["place"]:List Str)++([]:List Str)).Nodup;decide +kernel) rfl (by first | exact Or.inl rfl | exact Or.inr rfl)),(show PTs _ [] [] from trivial),(j0f (j4w T) (hr.mono (by decide)) (by rfl) T.m_z80 T.F_z80.kp T.b_z80 .nil j0d (j00 (pv 0) j01))⟩)) j01)) (fun _=>rfl))) (j03 (j0a j30)) j0c)
   (j03 (j0a (j1n (oEq hr) (j0r ja4 (by rfl) T.n_list PyProof.Rows.boot_list (j00 (pv 1) j01)) (j07 j37 (by rfl) T.n_sorted PyProof.Rows.boot_sorted (j00 (pv 1) j01)) (j0m _)))))),?_⟩
  have h6:=hg.hi
  walk_at "v"
  refine j86 (HasK.t hp) ?_
  walk_at "v"
  refine j0t hp ?_
  rw[List.length_map]
  walk_at "v"
  refine iteN (fun q=>(q rfl).elim) (fun _=>?_)
  walk_at "v"
  refine⟨p,rfl,⟨_,SqT.of hp⟩,fun acc hn _ _ _ _=>j29 (SqT.of hp) (by rw[List.length_map];omega) hn (fun j ys _=>ys=((ns.take j).map fun _=>true).map V.bl) (by simp) (fun _ _ _ _ _ h=>h) (fun j ys H' _ h=>by rw[h];simp;omega) ?_ ?_⟩
  ·rintro j y ys H2 hy e rfl Y N hY hN
   obtain⟨y,ey,rfl⟩:=j5o hy
   walk_at "v"
   refine⟨.int y,.int,rfl,rfl,?_⟩
   have hm:=hg.pl y (List.mem_of_getElem? ey)
   have hpl:plc (.int y)=true:=decide_eq_true (by omega)
   rw[hpl]
   refine hY _ _ Ext.rfl' ?_
   rw[List.take_add_one,ey]
   simp
  ·rintro ys H2 e ha rfl
   rw[List.length_map,List.take_of_length_le (Nat.le_refl _)] at ha
   walk_at "v"
   refine jed ha ?_
   have ea:(ns.map fun _=>true).all id=true:=by rw[List.all_eq_true];intro x hx;obtain⟨_,_,rfl⟩:=List.mem_map.mp hx;rfl
   rw[ea]
   walk_at "v"
   refine j3j (e _ _ hp) fun l H3 n3 h3 e3=>?_
   walk_at "v"
   refine jb0 (e3 _ _ (e _ _ hp)) (by omega) fun l2 ns' H4 n4 hpm hs h4 e4=>?_
   have:ns'=ns:=j88 hpm (List.Perm.refl _) hs hg.srt
   subst this
   walk_at "v"
   refine jef (e4 _ _ h3) h4 ?_
   rw[decide_eq_true rfl]
   exact hq H4 ((e.tr e3).tr e4)
end Nl
def j4n (a:Adr):Sp:=fun vs H Q _=>∃ (g:G83) (wd:Str) (w:Addr),vs=[.str wd,.ref w]∧wd=g.word∧g.rs.wo a H w∧Q (.bl true) H
theorem j4o (T:Txt K mg a):FnOk P w K mg base (CXU P w) 1 a.f_z38 a.d_z38 ["_law_word","_law_world"] (j4n a):=by
 refine T.F_z38.okU sc_z38 (fun vs H Q E h=>?_) (fun cdv A outer s H vs Q E hr h=>?_)
 ·obtain⟨g,wd,w,rfl,hwd,B,hq⟩:=h
  rfl
 ·obtain⟨g,wd,w,rfl,hwd,B,hq⟩:=h
  refine⟨_,(j02 (j0u (j0g (oEq hr) (pv 0) j0q (j0m _)) (j03 (j0a (j07 j28 (by rfl) T.n_isinstance PyProof.Rows.boot_isinstance (j00 (pv 1) (j00 (j12 (v:=V.ref a.c_Line) (by rfl) T.m_Line rfl) j01))))) j0c)
   (j02 (j0u (j0g (oEq hr) (pv 0) j0q (j0m _)) (j03 (j0a (j07 j28 (by rfl) T.n_isinstance PyProof.Rows.boot_isinstance (j00 (pv 1) (j00 (j12 (v:=V.ref a.c_Shelf) (by rfl) T.m_Shelf rfl) j01))))) j0c)
   (j02 (j0u (j0g (oEq hr) (pv 0) j0q (j0m _)) (j03 (j0a (j07 j28 (by rfl) T.n_isinstance PyProof.Rows.boot_isinstance (j00 (pv 1) (j00 (j12 (v:=V.ref a.c_Hire) (by rfl) T.m_Hire rfl) j01))))) j0c)
   (j02 (j0u (j0g (oEq hr) (pv 0) j0q (j0m _)) (j03 (j0a (j07 j28 (by rfl) T.n_isinstance PyProof.Rows.boot_isinstance (j00 (pv 1) (j00 (j12 (v:=V.ref a.c_Ways) (by rfl) T.m_Ways rfl) j01))))) j0c)
   (j02 (j0u (j0g (oEq hr) (pv 0) j0q (j0m _)) (j03 (j0a (j07 j28 (by rfl) T.n_isinstance PyProof.Rows.boot_isinstance (j00 (pv 1) (j00 (j12 (v:=V.ref a.c_Store) (by rfl) T.m_Store rfl) j01))))) j0c)
   (j03 (j0a (j07 j28 (by rfl) T.n_isinstance PyProof.Rows.boot_isinstance (j00 (pv 1) (j00 (j12 (v:=V.ref a.c_Bags) (by rfl) T.m_Bags rfl) j01)))))))))),?_⟩
  cases g with
  | line ns =>
   have hwd:wd=Str.ofString "line":=hwd
   obtain⟨dw,h1⟩:=B
   walk_at "v"
   refine j09 ?_
   rw[show decide (wd=Str.ofString "line")=true by rw[hwd];decide]
   walk_at "v"
   exact j2e h1 T.cl_Line T.ic_Line_Line hq
  | shelf ss =>
   have hwd:wd=Str.ofString "shelf":=hwd
   obtain⟨dw,tp,h1,h2⟩:=B
   walk_at "v"
   refine j09 ?_
   rw[show decide (wd=Str.ofString "line")=false by rw[hwd];decide]
   walk_at "v"
   refine j09 ?_
   rw[show decide (wd=Str.ofString "shelf")=true by rw[hwd];decide]
   walk_at "v"
   exact j2e h1 T.cl_Shelf T.ic_Shelf_Shelf hq
  | hire W =>
   have hwd:wd=Str.ofString "hire":=hwd
   obtain⟨dw,h1⟩:=B
   walk_at "v"
   refine j09 ?_
   rw[show decide (wd=Str.ofString "line")=false by rw[hwd];decide]
   walk_at "v"
   refine j09 ?_
   rw[show decide (wd=Str.ofString "shelf")=false by rw[hwd];decide]
   walk_at "v"
   refine j09 ?_
   rw[show decide (wd=Str.ofString "hire")=true by rw[hwd];decide]
   walk_at "v"
   exact j2e h1 T.cl_Hire T.ic_Hire_Hire hq
  | ways n t h =>
   have hwd:wd=Str.ofString "ways":=hwd
   obtain⟨dw,h1⟩:=B
   walk_at "v"
   refine j09 ?_
   rw[show decide (wd=Str.ofString "line")=false by rw[hwd];decide]
   walk_at "v"
   refine j09 ?_
   rw[show decide (wd=Str.ofString "shelf")=false by rw[hwd];decide]
   walk_at "v"
   refine j09 ?_
   rw[show decide (wd=Str.ofString "hire")=false by rw[hwd];decide]
   walk_at "v"
   refine j09 ?_
   rw[show decide (wd=Str.ofString "ways")=true by rw[hwd];decide]
   walk_at "v"
   exact j2e h1 T.cl_Ways T.ic_Ways_Ways hq
  | store ss =>
   have hwd:wd=Str.ofString "store":=hwd
   obtain⟨dw,h1⟩:=B
   walk_at "v"
   refine j09 ?_
   rw[show decide (wd=Str.ofString "line")=false by rw[hwd];decide]
   walk_at "v"
   refine j09 ?_
   rw[show decide (wd=Str.ofString "shelf")=false by rw[hwd];decide]
   walk_at "v"
   refine j09 ?_
   rw[show decide (wd=Str.ofString "hire")=false by rw[hwd];decide]
   walk_at "v"
   refine j09 ?_
   rw[show decide (wd=Str.ofString "ways")=false by rw[hwd];decide]
   walk_at "v"
   refine j09 ?_
   rw[show decide (wd=Str.ofString "store")=true by rw[hwd];decide]
   walk_at "v"
   exact j2e h1 T.cl_Store T.ic_Store_Store hq
  | bags R =>
   have hwd:wd=Str.ofString "bags":=hwd
   obtain⟨dw,h1⟩:=B
   walk_at "v"
   refine j09 ?_
   rw[show decide (wd=Str.ofString "line")=false by rw[hwd];decide]
   walk_at "v"
   refine j09 ?_
   rw[show decide (wd=Str.ofString "shelf")=false by rw[hwd];decide]
   walk_at "v"
   refine j09 ?_
   rw[show decide (wd=Str.ofString "hire")=false by rw[hwd];decide]
   walk_at "v"
   refine j09 ?_
   rw[show decide (wd=Str.ofString "ways")=false by rw[hwd];decide]
   walk_at "v"
   refine j09 ?_
   rw[show decide (wd=Str.ofString "store")=false by rw[hwd];decide]
   walk_at "v"
   exact j2e h1 T.cl_Bags T.ic_Bags_Bags hq
def j6w:Sp:=fun vs H Q _=>∃ (g:G83) (wd:Str) (p:Addr),vs=[.str wd,.ref p]∧GAt H g wd p∧∀ v H',g.rs.st H' v→Ext H H'→Q v H'
theorem j6x (T:Txt K mg a):FnOk P w K mg base (CXU P w) 1 a.f_z72 a.d_z72 ["_law_word","_law_start_here"] (j6w):=by
 refine T.F_z72.okU sc_z72 (fun vs H Q E h=>?_) (fun cdv A outer s H vs Q E hr h=>?_)
 ·obtain⟨g,wd,p,rfl,⟨hwd,hp,hok⟩,hq⟩:=h
  rfl
 ·obtain⟨g,wd,p,rfl,⟨hwd,hp,hok⟩,hq⟩:=h
  refine⟨_,(j02 (j0u (PW.pt (j34 (j0g (oEq hr) (pv 0) j0q (j0m _)) (j1k (j0g (oEq hr) (pv 0) j0q (j0m _))))) (j03 (j0a (pv 1))) j0c)
   (j02 (j0u (j0g (oEq hr) (pv 0) j0q (j0m _)) (j03 (j0a j08)) j0c)
   (j02 (j0u (j0g (oEq hr) (pv 0) j0q (j0m _)) (j03 (j0a (j14 oIx (pv 1) j08 (fun _ _=>rfl)))) j0c)
   (j02 (j0u (j0g (oEq hr) (pv 0) j0q (j0m _)) (j03 (j0a (j0r j3i (by rfl) T.n_tuple PyProof.Rows.boot_tuple (j00 (j07 j37 (by rfl) T.n_sorted PyProof.Rows.boot_sorted (j00 (pv 1) j01)) j01)))) j0c)
   (j03 (j0a (j1h j01))))))),?_⟩
  cases g with
  | line ns =>
   have hwd:wd=Str.ofString "line":=hwd
   walk_at "v"
   refine j09 ?_
   rw[show decide (wd=Str.ofString "line")=true by rw[hwd];decide]
   walk_at "v"
   exact hq _ H ⟨p,rfl,hp⟩ Ext.rfl'
  | shelf ss =>
   have hwd:wd=Str.ofString "shelf":=hwd
   walk_at "v"
   refine j09 ?_
   rw[show decide (wd=Str.ofString "line")=false by rw[hwd];decide]
   walk_at "v"
   refine j09 ?_
   rw[show decide (wd=Str.ofString "shelf")=true by rw[hwd];decide]
   walk_at "v"
   exact hq _ H ⟨p,rfl,hp⟩ Ext.rfl'
  | hire W =>
   have hwd:wd=Str.ofString "hire":=hwd
   walk_at "v"
   refine j09 ?_
   rw[show decide (wd=Str.ofString "line")=false by rw[hwd];decide]
   walk_at "v"
   refine j09 ?_
   rw[show decide (wd=Str.ofString "shelf")=false by rw[hwd];decide]
   walk_at "v"
   refine j09 ?_
   rw[show decide (wd=Str.ofString "hire")=true by rw[hwd];decide]
   walk_at "v"
   exact hq _ H rfl Ext.rfl'
  | ways n t h =>
   have hwd:wd=Str.ofString "ways":=hwd
   walk_at "v"
   refine j09 ?_
   rw[show decide (wd=Str.ofString "line")=false by rw[hwd];decide]
   walk_at "v"
   refine j09 ?_
   rw[show decide (wd=Str.ofString "shelf")=false by rw[hwd];decide]
   walk_at "v"
   refine j09 ?_
   rw[show decide (wd=Str.ofString "hire")=false by rw[hwd];decide]
   walk_at "v"
   refine j09 ?_
   rw[show decide (wd=Str.ofString "ways")=true by rw[hwd];decide]
   walk_at "v"
   refine j1d hp rfl ?_
   walk_at "v"
   exact hq _ H rfl Ext.rfl'
  | store ss =>
   have hwd:wd=Str.ofString "store":=hwd
   walk_at "v"
   refine j09 ?_
   rw[show decide (wd=Str.ofString "line")=false by rw[hwd];decide]
   walk_at "v"
   refine j09 ?_
   rw[show decide (wd=Str.ofString "shelf")=false by rw[hwd];decide]
   walk_at "v"
   refine j09 ?_
   rw[show decide (wd=Str.ofString "hire")=false by rw[hwd];decide]
   walk_at "v"
   refine j09 ?_
   rw[show decide (wd=Str.ofString "ways")=false by rw[hwd];decide]
   walk_at "v"
   refine j09 ?_
   rw[show decide (wd=Str.ofString "store")=true by rw[hwd];decide]
   walk_at "v"
   refine j3o hp (by have:=hok.hi;omega) fun l1 s1 H1 n1 p1 o1 q1 e1=>?_
   walk_at "v"
   refine j17 q1 fun t2 H2 n2 q2 e2=>?_
   exact hq _ H2 ⟨t2,s1,rfl,q2,p1,o1⟩ (e1.tr e2)
  | bags R =>
   have hwd:wd=Str.ofString "bags":=hwd
   walk_at "v"
   refine j09 ?_
   rw[show decide (wd=Str.ofString "line")=false by rw[hwd];decide]
   walk_at "v"
   refine j09 ?_
   rw[show decide (wd=Str.ofString "shelf")=false by rw[hwd];decide]
   walk_at "v"
   refine j09 ?_
   rw[show decide (wd=Str.ofString "hire")=false by rw[hwd];decide]
   walk_at "v"
   refine j09 ?_
   rw[show decide (wd=Str.ofString "ways")=false by rw[hwd];decide]
   walk_at "v"
   refine j09 ?_
   rw[show decide (wd=Str.ofString "store")=false by rw[hwd];decide]
   walk_at "v"
   intro t1 H1 n1 q1 e1
   exact hq _ H1 ⟨t1,[],rfl,q1,.refl _,.nil⟩ e1
def j8h (a:Adr):Sp:=fun vs H Q _=>∃ (g:G83) (wd:Str) (p r tq w:Addr) (v:V),vs=[.str wd,.ref p,.ref r,.ref tq]∧GAt H g wd p∧g.rs.at_ a H r∧H tq=some (.tup [.ref w,v])∧g.rs.wo a H w∧g.rs.st H v∧∀ H',Ext H H'→Q (.bl true) H'
theorem j2x (T:Txt K mg a):FnOk P w K mg base (CXU P w) 13 a.f_z82 a.d_z82 ["_law_word","_law_start_here","_law_rule","_law_pair"] (j8h a):=by
 refine T.F_z82.okU jf1 (fun vs H Q E h=>?_) (fun cdv A outer s H vs Q E hr h=>?_)
 ·obtain⟨g,wd,p,r,tq,w,v,rfl,hg,B,ht,hW,hv,hq⟩:=h
  rfl
 ·obtain⟨g,wd,p,r,tq,w,v,rfl,hg,B,ht,hW,hv,hq⟩:=h
  have zc_Both:=T.cl_Both
  have zn_Both_world:=T.na_Both_world
  have zc_Buyer:=T.cl_Buyer
  have zn_Buyer_world:=T.na_Buyer_world
  have zc_Changer:=T.cl_Changer
  have zn_Changer_world:=T.na_Changer_world
  have zc_Filler:=T.cl_Filler
  have zn_Filler_world:=T.na_Filler_world
  have zc_Front:=T.cl_Front
  have zn_Front_world:=T.na_Front_world
  have zc_Keeper:=T.cl_Keeper
  have zn_Keeper_world:=T.na_Keeper_world
  refine⟨_,(j02 (j0u (PW.pt (j34 (j0s (ptT (j07 j28 (by rfl) T.n_isinstance PyProof.Rows.boot_isinstance (j00 (pv 3) (j00 (j1b (v:=V.ty "tuple") (by rfl) T.n_tuple PyProof.Rows.boot_tuple rfl) j01))) (fun _=>rfl))) (j34 (j0g jd5 (j07 j1w (by rfl) T.n_len PySem.boot_len (j00 (pv 3) j01)) j08 (j0m _)) (j1k (j0s (ptT (j0f (j0v T) (hr.mono (by decide)) (by rfl) T.m_z84 T.F_z84.kp T.b_z84 .nil j0d (j00 (j14 oIx (pv 3) j08 (fun _ _=>rfl)) (j00 (j0f (j6x T) (hr.mono (by decide)) (by rfl) T.m_z72 T.F_z72.kp T.b_z72 .nil j0d (j00 (pv 0) (j00 (pv 1) j01))) j01))) (fun _=>rfl))))))) (j03 (j0a j30)) j0c)
   (j02 (jab PassesOwn.never rfl (j8t (j35 (j00 (j14 oIx (pv 3) j08 (fun _ _=>rfl)) (j00 (j0l (pv 2) rfl) j01)))) (j0w (i:=4) jf1.nd rfl (by first | exact Or.inl rfl | exact Or.inr rfl)) (j03 (j0u (PW.pt (j34 (j0s (ptT (j07 j28 (by rfl) T.n_isinstance PyProof.Rows.boot_isinstance (j00 (pv 4) (j00 (j12 (v:=V.ref a.c_World) (by rfl) T.m_World rfl) j01))) (fun _=>rfl))) (j34 (j0s (ptT (j0f (j4o T) (hr.mono (by decide)) (by rfl) T.m_z38 T.F_z38.kp T.b_z38 .nil j0d (j00 (pv 0) (j00 (pv 4) j01))) (fun _=>rfl))) (j1k (j0g j9r (j0i (j0e (pv 4) T.cl_Line T.me_Line_is_state (Nl.ok_Line_is_state T) (hr.mono (by decide)) T.b_z19 .nil j0d (j00 (j14 oIx (pv 3) j08 (fun _ _=>rfl)) j01)) (j0i (j0e (pv 4) T.cl_Shelf T.me_Shelf_is_state (Ns.ok_Shelf_is_state T) (hr.mono (by decide)) T.b_z9 .nil j0d (j00 (j14 oIx (pv 3) j08 (fun _ _=>rfl)) j01)) (j0i (j0e (pv 4) T.cl_Hire T.me_Hire_is_state (Nh.ok_Hire_is_state T) (hr.mono (by decide)) T.b_z16 .nil j0d (j00 (j14 oIx (pv 3) j08 (fun _ _=>rfl)) j01)) (j0i (j0e (pv 4) T.cl_Ways T.me_Ways_is_state (Nw.ok_Ways_is_state T) (hr.mono (by decide)) T.b_z23 .nil j0d (j00 (j14 oIx (pv 3) j08 (fun _ _=>rfl)) j01)) (j0i (j0e (pv 4) T.cl_Store T.me_Store_is_state (Nk.ok_Store_is_state T) (hr.mono (by decide)) T.b_z10 .nil j0d (j00 (j14 oIx (pv 3) j08 (fun _ _=>rfl)) j01)) (j0e (pv 4) T.cl_Bags T.me_Bags_is_state (Nb.ok_Bags_is_state T) (hr.mono (by decide)) T.b_z12 .nil j0d (j00 (j14 oIx (pv 3) j08 (fun _ _=>rfl)) j01))))))) j30 (j0m _)))))) (j03 (j0a j30)) j0c)))
   (j02 (j0u (PW.pt (j34 (j0s (ptT (j07 j28 (by rfl) T.n_isinstance PyProof.Rows.boot_isinstance (j00 (pv 2) (j00 (j12 (v:=V.ref a.c_Rule) (by rfl) T.m_Rule rfl) j01))) (fun _=>rfl))) (j34 (j0s (ptT (j07 j28 (by rfl) T.n_isinstance PyProof.Rows.boot_isinstance (j00 (pv 2) (j00 (j12 (v:=V.ref a.c_Bound) (by rfl) T.m_Bound rfl) j01))) (fun _=>rfl))) (j1k (j0s (ptT (j0f (j4m T) (hr.mono (by decide)) (by rfl) T.m_z39 T.F_z39.kp T.b_z39 .nil j0d (j00 (pv 0) (j00 (pv 2) j01))) (fun _=>rfl))))))) (j03 (j0a j30)) j0c)
   (j02 (j0u (PW.pt (j34 (j0s (ptT (j0f (j0v T) (hr.mono (by decide)) (by rfl) T.m_z84 T.F_z84.kp T.b_z84 .nil j0d (j00 (j0i (j0b (pv 2) T.cl_Both T.me_Both_state (Nl.ok_Rule_state T) (hr.mono (by decide)) T.b_z56 .nil j0d) (j0i (j0b (pv 2) T.cl_Front T.me_Front_state (Ns.ok_Rule_state T) (hr.mono (by decide)) T.b_z56 .nil j0d) (j0i (j0b (pv 2) T.cl_Buyer T.me_Buyer_state (Nh.ok_Rule_state T) (hr.mono (by decide)) T.b_z56 .nil j0d) (j0i (j0b (pv 2) T.cl_Changer T.me_Changer_state (Nw.ok_Rule_state T) (hr.mono (by decide)) T.b_z56 .nil j0d) (j0i (j0b (pv 2) T.cl_Keeper T.me_Keeper_state (Nk.ok_Rule_state T) (hr.mono (by decide)) T.b_z56 .nil j0d) (j0b (pv 2) T.cl_Filler T.me_Filler_state (Nb.ok_Rule_state T) (hr.mono (by decide)) T.b_z56 .nil j0d)))))) (j00 (j14 oIx (pv 3) j08 (fun _ _=>rfl)) j01))) (fun _=>rfl))) (j1k (j0s (ptT (j0f (j0v T) (hr.mono (by decide)) (by rfl) T.m_z84 T.F_z84.kp T.b_z84 .nil j0d (j00 (j0i (j0b (pv 2) T.cl_Both T.me_Both_paid (Nl.ok_Rule_paid T) (hr.mono (by decide)) T.b_z68 .nil j0d) (j0i (j0b (pv 2) T.cl_Front T.me_Front_paid (Ns.ok_Rule_paid T) (hr.mono (by decide)) T.b_z68 .nil j0d) (j0i (j0b (pv 2) T.cl_Buyer T.me_Buyer_paid (Nh.ok_Rule_paid T) (hr.mono (by decide)) T.b_z68 .nil j0d) (j0i (j0b (pv 2) T.cl_Changer T.me_Changer_paid (Nw.ok_Rule_paid T) (hr.mono (by decide)) T.b_z68 .nil j0d) (j0i (j0b (pv 2) T.cl_Keeper T.me_Keeper_paid (Nk.ok_Rule_paid T) (hr.mono (by decide)) T.b_z68 .nil j0d) (j0b (pv 2) T.cl_Filler T.me_Filler_paid (Nb.ok_Rule_paid T) (hr.mono (by decide)) T.b_z68 .nil j0d)))))) (j00 j08 j01))) (fun _=>rfl)))))) (j03 (j0a j30)) j0c)
   (j03 (j0a (j0f (j0v T) (hr.mono (by decide)) (by rfl) T.m_z84 T.F_z84.kp T.b_z84 .nil j0d (j00 (j0i (j0b (pv 2) T.cl_Both T.me_Both_factor (Nl.ok_Both_factor T) (hr.mono (by decide)) T.b_z42 .nil j0d) (j0i (j0b (pv 2) T.cl_Front T.me_Front_factor (Ns.ok_Front_factor T) (hr.mono (by decide)) T.b_z30 .nil j0d) (j0i (j0b (pv 2) T.cl_Buyer T.me_Buyer_factor (Nh.ok_Buyer_factor T) (hr.mono (by decide)) T.b_z25 .nil j0d) (j0i (j0b (pv 2) T.cl_Changer T.me_Changer_factor (Nw.ok_Changer_factor T) (hr.mono (by decide)) T.b_z7 .nil j0d) (j0i (j0b (pv 2) T.cl_Keeper T.me_Keeper_factor (Nk.ok_Keeper_factor T) (hr.mono (by decide)) T.b_z17 .nil j0d) (j0b (pv 2) T.cl_Filler T.me_Filler_factor (Nb.ok_Filler_factor T) (hr.mono (by decide)) T.b_z14 .nil j0d)))))) (j00 (j0f (j61 T) (hr.mono (by decide)) (by rfl) T.m_z61 T.F_z61.kp T.b_z61 .nil j0d (j00 (pv 0) (j00 (pv 1) j01))) j01))))))))),?_⟩
  have hok:=G83.rs_ok hg.2.2
  obtain⟨gf1,gf2,gz⟩:=G83.rs_f g
  generalize hs:g.rs=s at *
  cases s with
  | line m ns z =>
   obtain⟨dx,wo,dw,sp,h1,h2,h3⟩:=Nl.LineAt.ex B
   have hv0:=hv
   obtain⟨vp,rfl,hvp⟩:=hv
   have hW0:=hW
   obtain⟨gd,rfl⟩:=hok
   obtain rfl:z=0:=gz
   walk_at "v"
   refine j86 (HasK.t ht) ?_
   walk_at "v"
   refine j0t ht ?_
   walk_at "v"
   refine j1d ht rfl ?_
   walk_at "v"
   refine⟨g,wd,p,rfl,hg,fun v1 H1 s1 e1=>?_⟩
   rw[hs] at s1
   obtain⟨d,d1,d2,d3,d4⟩:=RS.same (RS.stM (fun _ _ z=>e1 _ _ z) hv0) s1
   walk_at "v"
   refine j0h d1 d2 d3 d4 fun H2 e2=>?_
   have x2:=e1.tr e2
   walk_at "v"
   refine j1d (x2 _ _ ht) rfl ?_
   have h12:=x2 _ _ h1
   walk_at "v"
   intro l3 H3 n3 q3 e3
   have x3:=x2.tr e3
   walk_at "v"
   refine⟨l3,rfl,⟨_,SqL.of q3⟩,j2p (xs:=[V.ref w,V.ref wo]) (fun i σ H4=>(∃ u,σ=[some (.str wd),some (.ref p),some (.ref r),some (.ref tq),u])∧Ext H3 H4) ⟨⟨none,rfl⟩,Ext.rfl'⟩ (fun i σ H4 _ ⟨_,e⟩=>SqL.of (e _ _ q3)) ?_ ?_⟩
   ·rintro i y σ H4 hy ⟨⟨u,rfl⟩,e4⟩
    obtain⟨w',rfl,hw0⟩:∃ w',y=.ref w'∧RS.wo a H w' (.line ns.length ns 0):=by
     rcases List.mem_cons.mp (List.mem_of_getElem? hy) with rfl | hm
     ·exact⟨w,rfl,hW0⟩
     ·cases List.mem_singleton.mp hm
      exact⟨wo,rfl,⟨dw,h2⟩⟩
    have x4:=x3.tr e4
    have hw4:=RS.woE x4 hw0
    have hw4':=hw4
    obtain⟨dw4,k4⟩:=hw4
    walk_at "v"
    refine j2e k4 T.cl_Line T.ic_Line_World ?_
    walk_at "v"
    refine⟨g,wd,w',rfl,hg.1,by rw[hs];exact hw4',?_⟩
    walk_at "v"
    refine j0j ?_
    walk_at "v"
    refine j1d (x4 _ _ ht) rfl ?_
    walk_at "v"
    refine⟨_,_,_,_,rfl,k4,(x4 _ _ hvp),gd,fun H5 e5=>?_⟩
    walk_at "v"
    refine j19 ?_
    walk_at "v"
    exact⟨⟨_,rfl⟩,e4.tr e5⟩
   ·rintro σ H4 ⟨⟨u,rfl⟩,e4⟩
    have x4:=x3.tr e4
    have h14:=x4 _ _ h1
    walk_at "v"
    refine j2e h14 T.cl_Both T.ic_Both_Rule ?_
    walk_at "v"
    refine j2e h14 T.cl_Both T.ic_Both_Bound ?_
    walk_at "v"
    refine⟨g,wd,r,rfl,hg.1,by rw[hs];exact RS.ext x4 (s:=.line ns.length ns 0) B,?_⟩
    walk_at "v"
    refine j0j ?_
    walk_at "v"
    refine⟨r,_,_,rfl,(Nl.LineAt.ext x4 B),fun v5 hv5=>?_⟩
    obtain⟨d',d1',d2',d3',d4'⟩:=RS.same (s:=.line ns.length ns 0) (H:=H4) ⟨v5,rfl,hv5⟩ (RS.stM (fun _ _ z=>x4 _ _ z) hv0)
    walk_at "v"
    refine j1d (x4 _ _ ht) rfl ?_
    walk_at "v"
    refine j0h d1' d2' d3' d4' fun H5 e5=>?_
    have x5:=x4.tr e5
    have h15:=x5 _ _ h1
    walk_at "v"
    refine j0j ?_
    walk_at "v"
    refine⟨r,_,_,rfl,(Nl.LineAt.ext x5 B),?_⟩
    walk_at "v"
    refine j0h (d:=.int 0) .intI .intI rfl rfl fun H6 e6=>?_
    have x6:=x5.tr e6
    have h16:=x6 _ _ h1
    walk_at "v"
    refine j0j ?_
    walk_at "v"
    refine⟨r,_,_,rfl,(Nl.LineAt.ext x6 B),fun q7 H7 n7 qq7 e7=>?_⟩
    have x7:=x6.tr e7
    walk_at "v"
    refine⟨g,wd,p,rfl,hg.ext x7,fun t8 H8 q8 e8=>?_⟩
    rw[← gf1,← gf2] at q8
    walk_at "v"
    exact j0h (Rep.tupI (e8 _ _ qq7) (.cons .intI (.cons .intI .nil))) (Rep.tupI q8 (.cons .intI (.cons .intI .nil))) rfl rfl fun H9 e9=>hq H9 ((x7.tr e8).tr e9)
  | shelf ts ss z =>
   obtain⟨dx,wo,dw,sp,tp,h1,h2,h3,h4⟩:=Ns.ShelfAt.ex B
   have hv0:=hv
   obtain⟨vp,rfl,hvp⟩:=hv
   have hW0:=hW
   obtain⟨hN,hpm⟩:=hok
   obtain rfl:z=0:=gz
   walk_at "v"
   refine j86 (HasK.t ht) ?_
   walk_at "v"
   refine j0t ht ?_
   walk_at "v"
   refine j1d ht rfl ?_
   walk_at "v"
   refine⟨g,wd,p,rfl,hg,fun v1 H1 s1 e1=>?_⟩
   rw[hs] at s1
   obtain⟨d,d1,d2,d3,d4⟩:=RS.same (RS.stM (fun _ _ z=>e1 _ _ z) hv0) s1
   walk_at "v"
   refine j0h d1 d2 d3 d4 fun H2 e2=>?_
   have x2:=e1.tr e2
   walk_at "v"
   refine j1d (x2 _ _ ht) rfl ?_
   have h12:=x2 _ _ h1
   walk_at "v"
   intro l3 H3 n3 q3 e3
   have x3:=x2.tr e3
   walk_at "v"
   refine⟨l3,rfl,⟨_,SqL.of q3⟩,j2p (xs:=[V.ref w,V.ref wo]) (fun i σ H4=>(∃ u,σ=[some (.str wd),some (.ref p),some (.ref r),some (.ref tq),u])∧Ext H3 H4) ⟨⟨none,rfl⟩,Ext.rfl'⟩ (fun i σ H4 _ ⟨_,e⟩=>SqL.of (e _ _ q3)) ?_ ?_⟩
   ·rintro i y σ H4 hy ⟨⟨u,rfl⟩,e4⟩
    obtain⟨w',rfl,hw0⟩:∃ w',y=.ref w'∧RS.wo a H w' (.shelf ts ss 0):=by
     rcases List.mem_cons.mp (List.mem_of_getElem? hy) with rfl | hm
     ·exact⟨w,rfl,hW0⟩
     ·cases List.mem_singleton.mp hm
      exact⟨wo,rfl,⟨dw,tp,h2,h4⟩⟩
    have x4:=x3.tr e4
    have hw4:=RS.woE x4 hw0
    have hw4':=hw4
    obtain⟨dw4,tp4,k4,kt4⟩:=hw4
    walk_at "v"
    refine j2e k4 T.cl_Shelf T.ic_Shelf_World ?_
    walk_at "v"
    refine⟨g,wd,w',rfl,hg.1,by rw[hs];exact hw4',?_⟩
    walk_at "v"
    refine j04 (j0j ?_)
    walk_at "v"
    refine j1d (x4 _ _ ht) rfl ?_
    walk_at "v"
    refine⟨_,_,_,_,_,_,rfl,k4,kt4,(x4 _ _ hvp),hN,hpm,fun H5 e5=>?_⟩
    walk_at "v"
    refine j19 ?_
    walk_at "v"
    exact⟨⟨_,rfl⟩,e4.tr e5⟩
   ·rintro σ H4 ⟨⟨u,rfl⟩,e4⟩
    have x4:=x3.tr e4
    have h14:=x4 _ _ h1
    walk_at "v"
    refine j2e h14 T.cl_Front T.ic_Front_Rule ?_
    walk_at "v"
    refine j2e h14 T.cl_Front T.ic_Front_Bound ?_
    walk_at "v"
    refine⟨g,wd,r,rfl,hg.1,by rw[hs];exact RS.ext x4 (s:=.shelf ts ss 0) B,?_⟩
    walk_at "v"
    refine j04 (j0j ?_)
    walk_at "v"
    refine⟨r,_,_,_,rfl,(Ns.ShelfAt.ext x4 B),fun v5 hv5=>?_⟩
    obtain⟨d',d1',d2',d3',d4'⟩:=RS.same (s:=.shelf ts ss 0) (H:=H4) ⟨v5,rfl,hv5⟩ (RS.stM (fun _ _ z=>x4 _ _ z) hv0)
    walk_at "v"
    refine j1d (x4 _ _ ht) rfl ?_
    walk_at "v"
    refine j0h d1' d2' d3' d4' fun H5 e5=>?_
    have x5:=x4.tr e5
    have h15:=x5 _ _ h1
    walk_at "v"
    refine j04 (j0j ?_)
    walk_at "v"
    refine⟨r,_,_,_,rfl,(Ns.ShelfAt.ext x5 B),?_⟩
    walk_at "v"
    refine j0h (d:=.int 0) .intI .intI rfl rfl fun H6 e6=>?_
    have x6:=x5.tr e6
    have h16:=x6 _ _ h1
    walk_at "v"
    refine j04 (j0j ?_)
    walk_at "v"
    refine⟨r,_,_,_,rfl,(Ns.ShelfAt.ext x6 B),fun q7 H7 n7 qq7 e7=>?_⟩
    have x7:=x6.tr e7
    walk_at "v"
    refine⟨g,wd,p,rfl,hg.ext x7,fun t8 H8 q8 e8=>?_⟩
    rw[← gf1,← gf2] at q8
    walk_at "v"
    exact j0h (Rep.tupI (e8 _ _ qq7) (.cons .intI (.cons .intI .nil))) (Rep.tupI q8 (.cons .intI (.cons .intI .nil))) rfl rfl fun H9 e9=>hq H9 ((x7.tr e8).tr e9)
  | hire W st z =>
   obtain⟨dx,wo,dw,h1,h2⟩:=Nh.BuyAt.ex B
   have hv0:=hv
   obtain rfl:=(show v=.int st from hv)
   have hW0:=hW
   obtain⟨W1,W2,hst⟩:=hok
   obtain rfl:z=0:=gz
   walk_at "v"
   refine j86 (HasK.t ht) ?_
   walk_at "v"
   refine j0t ht ?_
   walk_at "v"
   refine j1d ht rfl ?_
   walk_at "v"
   refine⟨g,wd,p,rfl,hg,fun v1 H1 s1 e1=>?_⟩
   rw[hs] at s1
   obtain⟨d,d1,d2,d3,d4⟩:=RS.same (RS.stM (fun _ _ z=>e1 _ _ z) hv0) s1
   walk_at "v"
   refine j0h d1 d2 d3 d4 fun H2 e2=>?_
   have x2:=e1.tr e2
   walk_at "v"
   refine j1d (x2 _ _ ht) rfl ?_
   have h12:=x2 _ _ h1
   walk_at "v"
   intro l3 H3 n3 q3 e3
   have x3:=x2.tr e3
   walk_at "v"
   refine⟨l3,rfl,⟨_,SqL.of q3⟩,j2p (xs:=[V.ref w,V.ref wo]) (fun i σ H4=>(∃ u,σ=[some (.str wd),some (.ref p),some (.ref r),some (.ref tq),u])∧Ext H3 H4) ⟨⟨none,rfl⟩,Ext.rfl'⟩ (fun i σ H4 _ ⟨_,e⟩=>SqL.of (e _ _ q3)) ?_ ?_⟩
   ·rintro i y σ H4 hy ⟨⟨u,rfl⟩,e4⟩
    obtain⟨w',rfl,hw0⟩:∃ w',y=.ref w'∧RS.wo a H w' (.hire W st 0):=by
     rcases List.mem_cons.mp (List.mem_of_getElem? hy) with rfl | hm
     ·exact⟨w,rfl,hW0⟩
     ·cases List.mem_singleton.mp hm
      exact⟨wo,rfl,⟨dw,h2⟩⟩
    have x4:=x3.tr e4
    have hw4:=RS.woE x4 hw0
    have hw4':=hw4
    obtain⟨dw4,k4⟩:=hw4
    walk_at "v"
    refine j2e k4 T.cl_Hire T.ic_Hire_World ?_
    walk_at "v"
    refine⟨g,wd,w',rfl,hg.1,by rw[hs];exact hw4',?_⟩
    walk_at "v"
    refine j04 (j04 (j0j ?_))
    walk_at "v"
    refine j1d (x4 _ _ ht) rfl ?_
    walk_at "v"
    refine⟨_,_,.int,rfl,rfl,?_⟩
    rw[show Nh.st01 (.int st)=true by rcases hst with rfl | rfl <;> rfl]
    walk_at "v"
    refine j19 ?_
    walk_at "v"
    exact⟨⟨_,rfl⟩,e4⟩
   ·rintro σ H4 ⟨⟨u,rfl⟩,e4⟩
    have x4:=x3.tr e4
    have h14:=x4 _ _ h1
    walk_at "v"
    refine j2e h14 T.cl_Buyer T.ic_Buyer_Rule ?_
    walk_at "v"
    refine j2e h14 T.cl_Buyer T.ic_Buyer_Bound ?_
    walk_at "v"
    refine⟨g,wd,r,rfl,hg.1,by rw[hs];exact RS.ext x4 (s:=.hire W st 0) B,?_⟩
    walk_at "v"
    refine j04 (j04 (j0j ?_))
    walk_at "v"
    refine⟨r,_,_,_,rfl,(Nh.BuyAt.ext x4 B),?_⟩
    obtain⟨d',d1',d2',d3',d4'⟩:=RS.same (s:=.hire W st 0) (H:=H4) rfl (RS.stM (fun _ _ z=>x4 _ _ z) hv0)
    walk_at "v"
    refine j1d (x4 _ _ ht) rfl ?_
    walk_at "v"
    refine j0h d1' d2' d3' d4' fun H5 e5=>?_
    have x5:=x4.tr e5
    have h15:=x5 _ _ h1
    walk_at "v"
    refine j04 (j04 (j0j ?_))
    walk_at "v"
    refine⟨r,_,_,_,rfl,(Nh.BuyAt.ext x5 B),?_⟩
    walk_at "v"
    refine j0h (d:=.int 0) .intI .intI rfl rfl fun H6 e6=>?_
    have x6:=x5.tr e6
    have h16:=x6 _ _ h1
    walk_at "v"
    refine j04 (j04 (j0j ?_))
    walk_at "v"
    refine⟨r,_,_,_,rfl,(Nh.BuyAt.ext x6 B),by omega,by omega,fun q7 H7 n7 qq7 e7=>?_⟩
    have x7:=x6.tr e7
    walk_at "v"
    refine⟨g,wd,p,rfl,hg.ext x7,fun t8 H8 q8 e8=>?_⟩
    rw[← gf1,← gf2] at q8
    walk_at "v"
    exact j0h (Rep.tupI (e8 _ _ qq7) (.cons .intI (.cons .intI .nil))) (Rep.tupI q8 (.cons .intI (.cons .intI .nil))) rfl rfl fun H9 e9=>hq H9 ((x7.tr e8).tr e9)
  | ways n t ns h z =>
   obtain⟨dx,wo,dw,q,h1,h2,h3⟩:=Nw.WaysAt.ex B
   have hv0:=hv
   obtain rfl:=(show v=.int h from hv)
   have hW0:=hW
   obtain⟨wk,rfl⟩:=hok
   obtain rfl:z=0:=gz
   walk_at "v"
   refine j86 (HasK.t ht) ?_
   walk_at "v"
   refine j0t ht ?_
   walk_at "v"
   refine j1d ht rfl ?_
   walk_at "v"
   refine⟨g,wd,p,rfl,hg,fun v1 H1 s1 e1=>?_⟩
   rw[hs] at s1
   obtain⟨d,d1,d2,d3,d4⟩:=RS.same (RS.stM (fun _ _ z=>e1 _ _ z) hv0) s1
   walk_at "v"
   refine j0h d1 d2 d3 d4 fun H2 e2=>?_
   have x2:=e1.tr e2
   walk_at "v"
   refine j1d (x2 _ _ ht) rfl ?_
   have h12:=x2 _ _ h1
   walk_at "v"
   intro l3 H3 n3 q3 e3
   have x3:=x2.tr e3
   walk_at "v"
   refine⟨l3,rfl,⟨_,SqL.of q3⟩,j2p (xs:=[V.ref w,V.ref wo]) (fun i σ H4=>(∃ u,σ=[some (.str wd),some (.ref p),some (.ref r),some (.ref tq),u])∧Ext H3 H4) ⟨⟨none,rfl⟩,Ext.rfl'⟩ (fun i σ H4 _ ⟨_,e⟩=>SqL.of (e _ _ q3)) ?_ ?_⟩
   ·rintro i y σ H4 hy ⟨⟨u,rfl⟩,e4⟩
    obtain⟨w',rfl,hw0⟩:∃ w',y=.ref w'∧RS.wo a H w' (.ways ns.length t ns h 0):=by
     rcases List.mem_cons.mp (List.mem_of_getElem? hy) with rfl | hm
     ·exact⟨w,rfl,hW0⟩
     ·cases List.mem_singleton.mp hm
      exact⟨wo,rfl,⟨dw,h2⟩⟩
    have x4:=x3.tr e4
    have hw4:=RS.woE x4 hw0
    have hw4':=hw4
    obtain⟨dw4,k4⟩:=hw4
    walk_at "v"
    refine j2e k4 T.cl_Ways T.ic_Ways_World ?_
    walk_at "v"
    refine⟨g,wd,w',rfl,hg.1,by rw[hs];exact hw4',?_⟩
    walk_at "v"
    refine j04 (j04 (j04 (j0j ?_)))
    walk_at "v"
    refine j1d (x4 _ _ ht) rfl ?_
    walk_at "v"
    refine⟨_,_,_,_,_,rfl,k4,wk.h0,wk.h1,?_⟩
    walk_at "v"
    refine j19 ?_
    walk_at "v"
    exact⟨⟨_,rfl⟩,e4⟩
   ·rintro σ H4 ⟨⟨u,rfl⟩,e4⟩
    have x4:=x3.tr e4
    have h14:=x4 _ _ h1
    walk_at "v"
    refine j2e h14 T.cl_Changer T.ic_Changer_Rule ?_
    walk_at "v"
    refine j2e h14 T.cl_Changer T.ic_Changer_Bound ?_
    walk_at "v"
    refine⟨g,wd,r,rfl,hg.1,by rw[hs];exact RS.ext x4 (s:=.ways ns.length t ns h 0) B,?_⟩
    walk_at "v"
    refine j04 (j04 (j04 (j0j ?_)))
    walk_at "v"
    refine⟨r,_,_,_,_,rfl,(Nw.WaysAt.ext x4 B),?_⟩
    obtain⟨d',d1',d2',d3',d4'⟩:=RS.same (s:=.ways ns.length t ns h 0) (H:=H4) rfl (RS.stM (fun _ _ z=>x4 _ _ z) hv0)
    walk_at "v"
    refine j1d (x4 _ _ ht) rfl ?_
    walk_at "v"
    refine j0h d1' d2' d3' d4' fun H5 e5=>?_
    have x5:=x4.tr e5
    have h15:=x5 _ _ h1
    walk_at "v"
    refine j04 (j04 (j04 (j0j ?_)))
    walk_at "v"
    refine⟨r,_,_,_,_,rfl,(Nw.WaysAt.ext x5 B),?_⟩
    walk_at "v"
    refine j0h (d:=.int 0) .intI .intI rfl rfl fun H6 e6=>?_
    have x6:=x5.tr e6
    have h16:=x6 _ _ h1
    walk_at "v"
    refine j04 (j04 (j04 (j0j ?_)))
    walk_at "v"
    refine⟨r,_,_,_,_,rfl,(Nw.WaysAt.ext x6 B),fun q7 H7 n7 qq7 e7=>?_⟩
    have x7:=x6.tr e7
    walk_at "v"
    refine⟨g,wd,p,rfl,hg.ext x7,fun t8 H8 q8 e8=>?_⟩
    rw[← gf1,← gf2] at q8
    walk_at "v"
    exact j0h (Rep.tupI (e8 _ _ qq7) (.cons .intI (.cons .intI .nil))) (Rep.tupI q8 (.cons .intI (.cons .intI .nil))) rfl rfl fun H9 e9=>hq H9 ((x7.tr e8).tr e9)
  | store m row z =>
   obtain⟨dx,wo,dw,sp,q,ss0,kk⟩:=Nk.KeepAt.ex B
   have h1:=kk.hr
   have h2:=kk.hw
   have hv0:=hv
   obtain⟨vp,vss,rfl,hvp,vpm,vso⟩:=hv
   have hW0:=hW
   obtain⟨hN,rfl⟩:=hok
   obtain rfl:z=0:=gz
   walk_at "v"
   refine j86 (HasK.t ht) ?_
   walk_at "v"
   refine j0t ht ?_
   walk_at "v"
   refine j1d ht rfl ?_
   walk_at "v"
   refine⟨g,wd,p,rfl,hg,fun v1 H1 s1 e1=>?_⟩
   rw[hs] at s1
   obtain⟨d,d1,d2,d3,d4⟩:=RS.same (RS.stM (fun _ _ z=>e1 _ _ z) hv0) s1
   walk_at "v"
   refine j0h d1 d2 d3 d4 fun H2 e2=>?_
   have x2:=e1.tr e2
   walk_at "v"
   refine j1d (x2 _ _ ht) rfl ?_
   have h12:=x2 _ _ h1
   walk_at "v"
   intro l3 H3 n3 q3 e3
   have x3:=x2.tr e3
   walk_at "v"
   refine⟨l3,rfl,⟨_,SqL.of q3⟩,j2p (xs:=[V.ref w,V.ref wo]) (fun i σ H4=>(∃ u,σ=[some (.str wd),some (.ref p),some (.ref r),some (.ref tq),u])∧Ext H3 H4) ⟨⟨none,rfl⟩,Ext.rfl'⟩ (fun i σ H4 _ ⟨_,e⟩=>SqL.of (e _ _ q3)) ?_ ?_⟩
   ·rintro i y σ H4 hy ⟨⟨u,rfl⟩,e4⟩
    obtain⟨w',rfl,hw0⟩:∃ w',y=.ref w'∧RS.wo a H w' (.store row.length row 0):=by
     rcases List.mem_cons.mp (List.mem_of_getElem? hy) with rfl | hm
     ·exact⟨w,rfl,hW0⟩
     ·cases List.mem_singleton.mp hm
      exact⟨wo,rfl,⟨dw,h2⟩⟩
    have x4:=x3.tr e4
    have hw4:=RS.woE x4 hw0
    have hw4':=hw4
    obtain⟨dw4,k4⟩:=hw4
    walk_at "v"
    refine j2e k4 T.cl_Store T.ic_Store_World ?_
    walk_at "v"
    refine⟨g,wd,w',rfl,hg.1,by rw[hs];exact hw4',?_⟩
    walk_at "v"
    refine j04 (j04 (j04 (j04 (j0j ?_))))
    walk_at "v"
    refine j1d (x4 _ _ ht) rfl ?_
    walk_at "v"
    refine⟨_,_,_,vss,rfl,by rw[vpm.length_eq];exact k4,(x4 _ _ hvp),hN.perm vpm,vso,fun H5 e5=>?_⟩
    walk_at "v"
    refine j19 ?_
    walk_at "v"
    exact⟨⟨_,rfl⟩,e4.tr e5⟩
   ·rintro σ H4 ⟨⟨u,rfl⟩,e4⟩
    have x4:=x3.tr e4
    have h14:=x4 _ _ h1
    walk_at "v"
    refine j2e h14 T.cl_Keeper T.ic_Keeper_Rule ?_
    walk_at "v"
    refine j2e h14 T.cl_Keeper T.ic_Keeper_Bound ?_
    walk_at "v"
    refine⟨g,wd,r,rfl,hg.1,by rw[hs];exact RS.ext x4 (s:=.store row.length row 0) B,?_⟩
    walk_at "v"
    refine j04 (j04 (j04 (j04 (j0j ?_))))
    walk_at "v"
    refine⟨r,_,_,rfl,(Nk.KeepAt.ext x4 B),fun v5 v5s v5p v5o hv5=>?_⟩
    obtain⟨d',d1',d2',d3',d4'⟩:=RS.same (s:=.store row.length row 0) (H:=H4) ⟨v5,v5s,rfl,hv5,v5p,v5o⟩ (RS.stM (fun _ _ z=>x4 _ _ z) hv0)
    walk_at "v"
    refine j1d (x4 _ _ ht) rfl ?_
    walk_at "v"
    refine j0h d1' d2' d3' d4' fun H5 e5=>?_
    have x5:=x4.tr e5
    have h15:=x5 _ _ h1
    walk_at "v"
    refine j04 (j04 (j04 (j04 (j0j ?_))))
    walk_at "v"
    refine⟨r,_,_,rfl,(Nk.KeepAt.ext x5 B),?_⟩
    walk_at "v"
    refine j0h (d:=.int 0) .intI .intI rfl rfl fun H6 e6=>?_
    have x6:=x5.tr e6
    have h16:=x6 _ _ h1
    walk_at "v"
    refine j04 (j04 (j04 (j04 (j0j ?_))))
    walk_at "v"
    refine⟨r,_,_,rfl,(Nk.KeepAt.ext x6 B),fun q7 H7 n7 qq7 e7=>?_⟩
    have x7:=x6.tr e7
    walk_at "v"
    refine⟨g,wd,p,rfl,hg.ext x7,fun t8 H8 q8 e8=>?_⟩
    rw[← gf1,← gf2] at q8
    walk_at "v"
    exact j0h (Rep.tupI (e8 _ _ qq7) (.cons .intI (.cons .intI .nil))) (Rep.tupI q8 (.cons .intI (.cons .intI .nil))) rfl rfl fun H9 e9=>hq H9 ((x7.tr e8).tr e9)
  | bags R ps z =>
   obtain⟨ss0,B0,pm0,pw0⟩:=B
   obtain⟨dx,wo,dw,sp,q,h1,h2,h3,h4⟩:=Nb.BagAt.ex B0
   have hv0:=hv
   obtain⟨vp,vss,rfl,hvp,vpm,vso⟩:=hv
   have hW0:=hW
   obtain⟨R1,R2,hps,hpl⟩:=hok
   obtain rfl:z=0:=gz
   walk_at "v"
   refine j86 (HasK.t ht) ?_
   walk_at "v"
   refine j0t ht ?_
   walk_at "v"
   refine j1d ht rfl ?_
   walk_at "v"
   refine⟨g,wd,p,rfl,hg,fun v1 H1 s1 e1=>?_⟩
   rw[hs] at s1
   obtain⟨d,d1,d2,d3,d4⟩:=RS.same (RS.stM (fun _ _ z=>e1 _ _ z) hv0) s1
   walk_at "v"
   refine j0h d1 d2 d3 d4 fun H2 e2=>?_
   have x2:=e1.tr e2
   walk_at "v"
   refine j1d (x2 _ _ ht) rfl ?_
   have h12:=x2 _ _ h1
   walk_at "v"
   intro l3 H3 n3 q3 e3
   have x3:=x2.tr e3
   walk_at "v"
   refine⟨l3,rfl,⟨_,SqL.of q3⟩,j2p (xs:=[V.ref w,V.ref wo]) (fun i σ H4=>(∃ u,σ=[some (.str wd),some (.ref p),some (.ref r),some (.ref tq),u])∧Ext H3 H4) ⟨⟨none,rfl⟩,Ext.rfl'⟩ (fun i σ H4 _ ⟨_,e⟩=>SqL.of (e _ _ q3)) ?_ ?_⟩
   ·rintro i y σ H4 hy ⟨⟨u,rfl⟩,e4⟩
    obtain⟨w',rfl,hw0⟩:∃ w',y=.ref w'∧RS.wo a H w' (.bags R ps 0):=by
     rcases List.mem_cons.mp (List.mem_of_getElem? hy) with rfl | hm
     ·exact⟨w,rfl,hW0⟩
     ·cases List.mem_singleton.mp hm
      exact⟨wo,rfl,⟨dw,h2⟩⟩
    have x4:=x3.tr e4
    have hw4:=RS.woE x4 hw0
    have hw4':=hw4
    obtain⟨dw4,k4⟩:=hw4
    walk_at "v"
    refine j2e k4 T.cl_Bags T.ic_Bags_World ?_
    walk_at "v"
    refine⟨g,wd,w',rfl,hg.1,by rw[hs];exact hw4',?_⟩
    walk_at "v"
    refine j04 (j04 (j04 (j04 (j04 ?_))))
    walk_at "v"
    refine j1d (x4 _ _ ht) rfl ?_
    walk_at "v"
    refine⟨_,_,_,_,vss,rfl,k4,(x4 _ _ hvp),by rw[vpm.length_eq];omega,(fun x hx=>hps x (vpm.mem_iff.mp hx)),vso,fun H5 e5=>?_⟩
    walk_at "v"
    refine j19 ?_
    walk_at "v"
    exact⟨⟨_,rfl⟩,e4.tr e5⟩
   ·rintro σ H4 ⟨⟨u,rfl⟩,e4⟩
    have x4:=x3.tr e4
    have h14:=x4 _ _ h1
    walk_at "v"
    refine j2e h14 T.cl_Filler T.ic_Filler_Rule ?_
    walk_at "v"
    refine j2e h14 T.cl_Filler T.ic_Filler_Bound ?_
    walk_at "v"
    refine⟨g,wd,r,rfl,hg.1,by rw[hs];exact RS.ext x4 (s:=.bags R ps 0) ⟨_,B0,pm0,pw0⟩,?_⟩
    walk_at "v"
    refine j04 (j04 (j04 (j04 (j04 ?_))))
    walk_at "v"
    refine⟨r,_,_,_,_,rfl,(B0.ext x4),fun v5 hv5=>?_⟩
    obtain⟨d',d1',d2',d3',d4'⟩:=RS.same (s:=.bags R ps 0) (H:=H4) ⟨v5,_,rfl,hv5,pm0,pw0⟩ (RS.stM (fun _ _ z=>x4 _ _ z) hv0)
    walk_at "v"
    refine j1d (x4 _ _ ht) rfl ?_
    walk_at "v"
    refine j0h d1' d2' d3' d4' fun H5 e5=>?_
    have x5:=x4.tr e5
    have h15:=x5 _ _ h1
    walk_at "v"
    refine j04 (j04 (j04 (j04 (j04 ?_))))
    walk_at "v"
    refine⟨r,_,_,_,_,rfl,(B0.ext x5),?_⟩
    walk_at "v"
    refine j0h (d:=.int 0) .intI .intI rfl rfl fun H6 e6=>?_
    have x6:=x5.tr e6
    have h16:=x6 _ _ h1
    walk_at "v"
    refine j04 (j04 (j04 (j04 (j04 ?_))))
    walk_at "v"
    refine⟨r,_,_,_,_,rfl,(B0.ext x6),fun q7 H7 n7 qq7 e7=>?_⟩
    have x7:=x6.tr e7
    walk_at "v"
    refine⟨g,wd,p,rfl,hg.ext x7,fun t8 H8 q8 e8=>?_⟩
    rw[← gf1,← gf2] at q8
    walk_at "v"
    exact j0h (Rep.tupI (e8 _ _ qq7) (.cons .intI (.cons .intI .nil))) (Rep.tupI q8 (.cons .intI (.cons .intI .nil))) rfl rfl fun H9 e9=>hq H9 ((x7.tr e8).tr e9)
namespace Nb
def j4p (a:Adr):Sp:=fun vs H Q _=>∃ (r:Addr) (R z:Int) (ps ss:List Int),vs=[.ref r]∧BagAt a H r R ps ss z∧∀ l H',H l=none→H' l=some (.lst (ps.map V.int))→Ext H H'→Q (.ref l) H'
theorem ok_Filler_loads (T:Txt K mg a):FnOk P w K mg base (CXU P w) 1 a.f_z29 a.d_z29 ["self"] (j4p a):=by
 refine T.F_z29.okU sc_z29 (fun vs H Q E h=>?_) (fun cdv A outer s H vs Q E hr h=>?_)
 ·obtain⟨r,R,z,ps,ss,rfl,hB,hq⟩:=h
  rfl
 ·obtain⟨r,R,z,ps,ss,rfl,hB,hq⟩:=h
  have zc_Filler:=T.cl_Filler
  have zn_Filler_packed:=T.na_Filler_packed
  refine⟨_,(j03 (j0a (j0r ja4 (by rfl) T.n_list PyProof.Rows.boot_list (j00 (j0l (pv 0) rfl) j01)))),?_⟩
  obtain⟨dx,wo,dw,st,q,h1,h2,h3,h4⟩:=hB.ex
  walk_at "v"
  exact j9a h4 hq
end Nb
namespace Nk
def j4q (a:Adr):Sp:=fun vs H Q _=>∃ (r:Addr) (row:List Str) (z:Int),vs=[.ref r]∧KeepAt a H r row z∧∀ l H',H l=none→H' l=some (.lst (row.map V.str))→Ext H H'→Q (.ref l) H'
theorem ok_Keeper_pages (T:Txt K mg a):FnOk P w K mg base (CXU P w) 1 a.f_z34 a.d_z34 ["self"] (j4q a):=by
 refine T.F_z34.okU sc_z34 (fun vs H Q E h=>?_) (fun cdv A outer s H vs Q E hr h=>?_)
 ·obtain⟨r,row,z,rfl,hB,hq⟩:=h
  rfl
 ·obtain⟨r,row,z,rfl,hB,hq⟩:=h
  have zc_Keeper:=T.cl_Keeper
  have zn_Keeper_row:=T.na_Keeper_row
  refine⟨_,(j03 (j0a (j0r ja4 (by rfl) T.n_list PyProof.Rows.boot_list (j00 (j0l (pv 0) rfl) j01)))),?_⟩
  obtain⟨dx,wo,dw,st,q,ss,k⟩:=hB.ex
  have h1:=k.hr
  walk_at "v"
  refine j9a k.hq fun l H1 n1 q1 e1=>?_
  exact hq l H1 n1 q1 e1
end Nk
namespace Nw
def j2y (a:Adr):Sp:=fun vs H Q _=>∃ (r:Addr) (ns:List Int) (h t z:Int),vs=[.ref r]∧WaysAt a H r ns h t z∧∀ l H',H l=none→H' l=some (.lst (ns.map V.int))→Ext H H'→Q (.ref l) H'
theorem ok_Changer_numbers (T:Txt K mg a):FnOk P w K mg base (CXU P w) 1 a.f_z3 a.d_z3 ["self"] (j2y a):=by
 refine T.F_z3.okU sc_z3 (fun vs H Q E h=>?_) (fun cdv A outer s H vs Q E hr h=>?_)
 ·obtain⟨r,ns,h,t,z,rfl,hB,hq⟩:=h
  rfl
 ·obtain⟨r,ns,h,t,z,rfl,hB,hq⟩:=h
  have zc_Changer:=T.cl_Changer
  have zn_Changer_reckoned:=T.na_Changer_reckoned
  refine⟨_,(j03 (j0a (j0r ja4 (by rfl) T.n_list PyProof.Rows.boot_list (j00 (j0l (pv 0) rfl) j01)))),?_⟩
  obtain⟨dx,wo,dw,q,h1,h2,h3⟩:=hB.ex
  walk_at "v"
  exact j9a h3 hq
end Nw
def j6y (a:Adr):Sp:=fun vs H Q _=>∃ (s:RS) (wd:Str) (r r2:Addr),vs=[.str wd,.ref r,.ref r2]∧wd=s.word∧s.at_ a H r∧s.at_ a H r2∧∀ H',Ext H H'→Q (.bl true) H'
theorem j43 (T:Txt K mg a):FnOk P w K mg base (CXU P w) 13 a.f_z77 a.d_z77 ["_law_word","_law_rule","_law_twin"] (j6y a):=by
 refine T.F_z77.okU sc_z77 (fun vs H Q E h=>?_) (fun cdv A outer s H vs Q E hr h=>?_)
 ·obtain⟨s,wd,r,r2,rfl,hwd,B,C,hq⟩:=h
  rfl
 ·obtain⟨s,wd,r,r2,rfl,hwd,B,C,hq⟩:=h
  refine⟨_,(j02 (j0u (PW.pt (j34 (j0s (ptT (j0f (j0v T) (hr.mono (by decide)) (by rfl) T.m_z84 T.F_z84.kp T.b_z84 .nil j0d (j00 (j0i (j0b (pv 1) T.cl_Both T.me_Both_state (Nl.ok_Rule_state T) (hr.mono (by decide)) T.b_z56 .nil j0d) (j0i (j0b (pv 1) T.cl_Front T.me_Front_state (Ns.ok_Rule_state T) (hr.mono (by decide)) T.b_z56 .nil j0d) (j0i (j0b (pv 1) T.cl_Buyer T.me_Buyer_state (Nh.ok_Rule_state T) (hr.mono (by decide)) T.b_z56 .nil j0d) (j0i (j0b (pv 1) T.cl_Changer T.me_Changer_state (Nw.ok_Rule_state T) (hr.mono (by decide)) T.b_z56 .nil j0d) (j0i (j0b (pv 1) T.cl_Keeper T.me_Keeper_state (Nk.ok_Rule_state T) (hr.mono (by decide)) T.b_z56 .nil j0d) (j0b (pv 1) T.cl_Filler T.me_Filler_state (Nb.ok_Rule_state T) (hr.mono (by decide)) T.b_z56 .nil j0d)))))) (j00 (j0i (j0b (pv 2) T.cl_Both T.me_Both_state (Nl.ok_Rule_state T) (hr.mono (by decide)) T.b_z56 .nil j0d) (j0i (j0b (pv 2) T.cl_Front T.me_Front_state (Ns.ok_Rule_state T) (hr.mono (by decide)) T.b_z56 .nil j0d) (j0i (j0b (pv 2) T.cl_Buyer T.me_Buyer_state (Nh.ok_Rule_state T) (hr.mono (by decide)) T.b_z56 .nil j0d) (j0i (j0b (pv 2) T.cl_Changer T.me_Changer_state (Nw.ok_Rule_state T) (hr.mono (by decide)) T.b_z56 .nil j0d) (j0i (j0b (pv 2) T.cl_Keeper T.me_Keeper_state (Nk.ok_Rule_state T) (hr.mono (by decide)) T.b_z56 .nil j0d) (j0b (pv 2) T.cl_Filler T.me_Filler_state (Nb.ok_Rule_state T) (hr.mono (by decide)) T.b_z56 .nil j0d)))))) j01))) (fun _=>rfl))) (j1k (j0s (ptT (j0f (j0v T) (hr.mono (by decide)) (by rfl) T.m_z84 T.F_z84.kp T.b_z84 .nil j0d (j00 (j0i (j0b (pv 1) T.cl_Both T.me_Both_paid (Nl.ok_Rule_paid T) (hr.mono (by decide)) T.b_z68 .nil j0d) (j0i (j0b (pv 1) T.cl_Front T.me_Front_paid (Ns.ok_Rule_paid T) (hr.mono (by decide)) T.b_z68 .nil j0d) (j0i (j0b (pv 1) T.cl_Buyer T.me_Buyer_paid (Nh.ok_Rule_paid T) (hr.mono (by decide)) T.b_z68 .nil j0d) (j0i (j0b (pv 1) T.cl_Changer T.me_Changer_paid (Nw.ok_Rule_paid T) (hr.mono (by decide)) T.b_z68 .nil j0d) (j0i (j0b (pv 1) T.cl_Keeper T.me_Keeper_paid (Nk.ok_Rule_paid T) (hr.mono (by decide)) T.b_z68 .nil j0d) (j0b (pv 1) T.cl_Filler T.me_Filler_paid (Nb.ok_Rule_paid T) (hr.mono (by decide)) T.b_z68 .nil j0d)))))) (j00 (j0i (j0b (pv 2) T.cl_Both T.me_Both_paid (Nl.ok_Rule_paid T) (hr.mono (by decide)) T.b_z68 .nil j0d) (j0i (j0b (pv 2) T.cl_Front T.me_Front_paid (Ns.ok_Rule_paid T) (hr.mono (by decide)) T.b_z68 .nil j0d) (j0i (j0b (pv 2) T.cl_Buyer T.me_Buyer_paid (Nh.ok_Rule_paid T) (hr.mono (by decide)) T.b_z68 .nil j0d) (j0i (j0b (pv 2) T.cl_Changer T.me_Changer_paid (Nw.ok_Rule_paid T) (hr.mono (by decide)) T.b_z68 .nil j0d) (j0i (j0b (pv 2) T.cl_Keeper T.me_Keeper_paid (Nk.ok_Rule_paid T) (hr.mono (by decide)) T.b_z68 .nil j0d) (j0b (pv 2) T.cl_Filler T.me_Filler_paid (Nb.ok_Rule_paid T) (hr.mono (by decide)) T.b_z68 .nil j0d)))))) j01))) (fun _=>rfl)))))) (j03 (j0a j30)) j0c)
   (j02 (j0u (j0g (oEq hr) (pv 0) j0q (j0m _)) (j03 (j0a (j0f (j0v T) (hr.mono (by decide)) (by rfl) T.m_z84 T.F_z84.kp T.b_z84 .nil j0d (j00 (j0b (pv 1) T.cl_Changer T.me_Changer_numbers (Nw.ok_Changer_numbers T) (hr.mono (by decide)) T.b_z3 .nil j0d) (j00 (j0b (pv 2) T.cl_Changer T.me_Changer_numbers (Nw.ok_Changer_numbers T) (hr.mono (by decide)) T.b_z3 .nil j0d) j01))))) j0c)
   (j02 (j0u (j0g (oEq hr) (pv 0) j0q (j0m _)) (j03 (j0a (j0f (j0v T) (hr.mono (by decide)) (by rfl) T.m_z84 T.F_z84.kp T.b_z84 .nil j0d (j00 (j0b (pv 1) T.cl_Keeper T.me_Keeper_pages (Nk.ok_Keeper_pages T) (hr.mono (by decide)) T.b_z34 .nil j0d) (j00 (j0b (pv 2) T.cl_Keeper T.me_Keeper_pages (Nk.ok_Keeper_pages T) (hr.mono (by decide)) T.b_z34 .nil j0d) j01))))) j0c)
   (j02 (j0u (j0g (oEq hr) (pv 0) j0q (j0m _)) (j03 (j0a (j0f (j0v T) (hr.mono (by decide)) (by rfl) T.m_z84 T.F_z84.kp T.b_z84 .nil j0d (j00 (j0b (pv 1) T.cl_Filler T.me_Filler_loads (Nb.ok_Filler_loads T) (hr.mono (by decide)) T.b_z29 .nil j0d) (j00 (j0b (pv 2) T.cl_Filler T.me_Filler_loads (Nb.ok_Filler_loads T) (hr.mono (by decide)) T.b_z29 .nil j0d) j01))))) j0c)
   (j03 (j0a j30)))))),?_⟩
  cases s with
  | line m ns z =>
   have hwd:wd=Str.ofString "line":=hwd
   obtain⟨dx0,wo0,dw0,sp0,h10,h20,h30⟩:=Nl.LineAt.ex B
   obtain⟨dx9,wo9,dw9,sp9,h19,h29,h39⟩:=Nl.LineAt.ex C
   walk_at "v"
   refine j0j ?_
   walk_at "v"
   refine⟨r,_,_,rfl,B,fun v5 hv5=>?_⟩
   walk_at "v"
   refine j0j ?_
   walk_at "v"
   refine⟨r2,_,_,rfl,C,fun v6 hv6=>?_⟩
   obtain⟨d,d1,d2,d3,d4⟩:=RS.same (s:=.line m ns z) (H:=H) ⟨v5,rfl,hv5⟩ ⟨v6,rfl,hv6⟩
   walk_at "v"
   refine j0h d1 d2 d3 d4 fun H1 e1=>?_
   have h11:=e1 _ _ h10
   have g11:=e1 _ _ h19
   walk_at "v"
   refine j0j ?_
   walk_at "v"
   refine⟨r,_,_,rfl,(Nl.LineAt.ext e1 B),?_⟩
   walk_at "v"
   refine j0j ?_
   walk_at "v"
   refine⟨r2,_,_,rfl,(Nl.LineAt.ext e1 C),?_⟩
   walk_at "v"
   refine j0h (d:=.int z) .intI .intI rfl rfl fun H2 e2=>?_
   have x2:=e1.tr e2
   have h12:=x2 _ _ h10
   have g12:=x2 _ _ h19
   walk_at "v"
   refine j09 ?_
   rw[show decide (wd=Str.ofString "ways")=false by rw[hwd];decide]
   walk_at "v"
   refine j09 ?_
   rw[show decide (wd=Str.ofString "store")=false by rw[hwd];decide]
   walk_at "v"
   refine j09 ?_
   rw[show decide (wd=Str.ofString "bags")=false by rw[hwd];decide]
   walk_at "v"
   exact hq H2 x2
  | shelf ts ss z =>
   have hwd:wd=Str.ofString "shelf":=hwd
   obtain⟨dx0,wo0,dw0,sp0,tp0,h10,h20,h30,h40⟩:=Ns.ShelfAt.ex B
   obtain⟨dx9,wo9,dw9,sp9,tp9,h19,h29,h39,h49⟩:=Ns.ShelfAt.ex C
   walk_at "v"
   refine j04 (j0j ?_)
   walk_at "v"
   refine⟨r,_,_,_,rfl,B,fun v5 hv5=>?_⟩
   walk_at "v"
   refine j04 (j0j ?_)
   walk_at "v"
   refine⟨r2,_,_,_,rfl,C,fun v6 hv6=>?_⟩
   obtain⟨d,d1,d2,d3,d4⟩:=RS.same (s:=.shelf ts ss z) (H:=H) ⟨v5,rfl,hv5⟩ ⟨v6,rfl,hv6⟩
   walk_at "v"
   refine j0h d1 d2 d3 d4 fun H1 e1=>?_
   have h11:=e1 _ _ h10
   have g11:=e1 _ _ h19
   walk_at "v"
   refine j04 (j0j ?_)
   walk_at "v"
   refine⟨r,_,_,_,rfl,(Ns.ShelfAt.ext e1 B),?_⟩
   walk_at "v"
   refine j04 (j0j ?_)
   walk_at "v"
   refine⟨r2,_,_,_,rfl,(Ns.ShelfAt.ext e1 C),?_⟩
   walk_at "v"
   refine j0h (d:=.int z) .intI .intI rfl rfl fun H2 e2=>?_
   have x2:=e1.tr e2
   have h12:=x2 _ _ h10
   have g12:=x2 _ _ h19
   walk_at "v"
   refine j09 ?_
   rw[show decide (wd=Str.ofString "ways")=false by rw[hwd];decide]
   walk_at "v"
   refine j09 ?_
   rw[show decide (wd=Str.ofString "store")=false by rw[hwd];decide]
   walk_at "v"
   refine j09 ?_
   rw[show decide (wd=Str.ofString "bags")=false by rw[hwd];decide]
   walk_at "v"
   exact hq H2 x2
  | hire W st z =>
   have hwd:wd=Str.ofString "hire":=hwd
   obtain⟨dx0,wo0,dw0,h10,h20⟩:=Nh.BuyAt.ex B
   obtain⟨dx9,wo9,dw9,h19,h29⟩:=Nh.BuyAt.ex C
   walk_at "v"
   refine j04 (j04 (j0j ?_))
   walk_at "v"
   refine⟨r,_,_,_,rfl,B,?_⟩
   walk_at "v"
   refine j04 (j04 (j0j ?_))
   walk_at "v"
   refine⟨r2,_,_,_,rfl,C,?_⟩
   obtain⟨d,d1,d2,d3,d4⟩:=RS.same (s:=.hire W st z) (H:=H) rfl rfl
   walk_at "v"
   refine j0h d1 d2 d3 d4 fun H1 e1=>?_
   have h11:=e1 _ _ h10
   have g11:=e1 _ _ h19
   walk_at "v"
   refine j04 (j04 (j0j ?_))
   walk_at "v"
   refine⟨r,_,_,_,rfl,(Nh.BuyAt.ext e1 B),?_⟩
   walk_at "v"
   refine j04 (j04 (j0j ?_))
   walk_at "v"
   refine⟨r2,_,_,_,rfl,(Nh.BuyAt.ext e1 C),?_⟩
   walk_at "v"
   refine j0h (d:=.int z) .intI .intI rfl rfl fun H2 e2=>?_
   have x2:=e1.tr e2
   have h12:=x2 _ _ h10
   have g12:=x2 _ _ h19
   walk_at "v"
   refine j09 ?_
   rw[show decide (wd=Str.ofString "ways")=false by rw[hwd];decide]
   walk_at "v"
   refine j09 ?_
   rw[show decide (wd=Str.ofString "store")=false by rw[hwd];decide]
   walk_at "v"
   refine j09 ?_
   rw[show decide (wd=Str.ofString "bags")=false by rw[hwd];decide]
   walk_at "v"
   exact hq H2 x2
  | ways n t ns h z =>
   have hwd:wd=Str.ofString "ways":=hwd
   obtain⟨dx0,wo0,dw0,q0,h10,h20,h30⟩:=Nw.WaysAt.ex B
   obtain⟨dx9,wo9,dw9,q9,h19,h29,h39⟩:=Nw.WaysAt.ex C
   walk_at "v"
   refine j04 (j04 (j04 (j0j ?_)))
   walk_at "v"
   refine⟨r,_,_,_,_,rfl,B,?_⟩
   walk_at "v"
   refine j04 (j04 (j04 (j0j ?_)))
   walk_at "v"
   refine⟨r2,_,_,_,_,rfl,C,?_⟩
   obtain⟨d,d1,d2,d3,d4⟩:=RS.same (s:=.ways n t ns h z) (H:=H) rfl rfl
   walk_at "v"
   refine j0h d1 d2 d3 d4 fun H1 e1=>?_
   have h11:=e1 _ _ h10
   have g11:=e1 _ _ h19
   walk_at "v"
   refine j04 (j04 (j04 (j0j ?_)))
   walk_at "v"
   refine⟨r,_,_,_,_,rfl,(Nw.WaysAt.ext e1 B),?_⟩
   walk_at "v"
   refine j04 (j04 (j04 (j0j ?_)))
   walk_at "v"
   refine⟨r2,_,_,_,_,rfl,(Nw.WaysAt.ext e1 C),?_⟩
   walk_at "v"
   refine j0h (d:=.int z) .intI .intI rfl rfl fun H2 e2=>?_
   have x2:=e1.tr e2
   have h12:=x2 _ _ h10
   have g12:=x2 _ _ h19
   walk_at "v"
   refine j09 ?_
   rw[show decide (wd=Str.ofString "ways")=true by rw[hwd];decide]
   walk_at "v"
   refine⟨r,_,_,_,_,rfl,(Nw.WaysAt.ext x2 B),fun l3 H3 n3 q3 e3=>?_⟩
   walk_at "v"
   refine⟨r2,_,_,_,_,rfl,(Nw.WaysAt.ext (x2.tr e3) C),fun l4 H4 n4 q4 e4=>?_⟩
   walk_at "v"
   exact j0h (Rep.lstInts (e4 _ _ q3)) (Rep.lstInts q4) (plI _) (depI _) fun H5 e5=>hq H5 (((x2.tr e3).tr e4).tr e5)
  | store m row z =>
   have hwd:wd=Str.ofString "store":=hwd
   obtain⟨dx0,wo0,dw0,sp0,q0,ss0,kk0⟩:=Nk.KeepAt.ex B
   have h10:=kk0.hr
   have h20:=kk0.hw
   obtain⟨dx9,wo9,dw9,sp9,q9,ss9,kk9⟩:=Nk.KeepAt.ex C
   have h19:=kk9.hr
   have h29:=kk9.hw
   walk_at "v"
   refine j04 (j04 (j04 (j04 (j0j ?_))))
   walk_at "v"
   refine⟨r,_,_,rfl,B,fun v5 v5s v5p v5o hv5=>?_⟩
   walk_at "v"
   refine j04 (j04 (j04 (j04 (j0j ?_))))
   walk_at "v"
   refine⟨r2,_,_,rfl,C,fun v6 v6s v6p v6o hv6=>?_⟩
   obtain⟨d,d1,d2,d3,d4⟩:=RS.same (s:=.store m row z) (H:=H) ⟨v5,v5s,rfl,hv5,v5p,v5o⟩ ⟨v6,v6s,rfl,hv6,v6p,v6o⟩
   walk_at "v"
   refine j0h d1 d2 d3 d4 fun H1 e1=>?_
   have h11:=e1 _ _ h10
   have g11:=e1 _ _ h19
   walk_at "v"
   refine j04 (j04 (j04 (j04 (j0j ?_))))
   walk_at "v"
   refine⟨r,_,_,rfl,(Nk.KeepAt.ext e1 B),?_⟩
   walk_at "v"
   refine j04 (j04 (j04 (j04 (j0j ?_))))
   walk_at "v"
   refine⟨r2,_,_,rfl,(Nk.KeepAt.ext e1 C),?_⟩
   walk_at "v"
   refine j0h (d:=.int z) .intI .intI rfl rfl fun H2 e2=>?_
   have x2:=e1.tr e2
   have h12:=x2 _ _ h10
   have g12:=x2 _ _ h19
   walk_at "v"
   refine j09 ?_
   rw[show decide (wd=Str.ofString "ways")=false by rw[hwd];decide]
   walk_at "v"
   refine j09 ?_
   rw[show decide (wd=Str.ofString "store")=true by rw[hwd];decide]
   walk_at "v"
   refine⟨r,_,_,rfl,(Nk.KeepAt.ext x2 B),fun l3 H3 n3 q3 e3=>?_⟩
   walk_at "v"
   refine⟨r2,_,_,rfl,(Nk.KeepAt.ext (x2.tr e3) C),fun l4 H4 n4 q4 e4=>?_⟩
   walk_at "v"
   exact j0h (j26 (e4 _ _ q3)) (j26 q4) (plS _) (jj1 _) fun H5 e5=>hq H5 (((x2.tr e3).tr e4).tr e5)
  | bags R ps z =>
   have hwd:wd=Str.ofString "bags":=hwd
   obtain⟨ss0,B0,pm0,pw0⟩:=B
   obtain⟨dx0,wo0,dw0,sp0,q0,h10,h20,h30,h40⟩:=Nb.BagAt.ex B0
   obtain⟨ss9,B9,pm9,pw9⟩:=C
   obtain⟨dx9,wo9,dw9,sp9,q9,h19,h29,h39,h49⟩:=Nb.BagAt.ex B9
   walk_at "v"
   refine j04 (j04 (j04 (j04 (j04 ?_))))
   walk_at "v"
   refine⟨r,_,_,_,_,rfl,B0,fun v5 hv5=>?_⟩
   walk_at "v"
   refine j04 (j04 (j04 (j04 (j04 ?_))))
   walk_at "v"
   refine⟨r2,_,_,_,_,rfl,B9,fun v6 hv6=>?_⟩
   obtain⟨d,d1,d2,d3,d4⟩:=RS.same (s:=.bags R ps z) (H:=H) ⟨v5,_,rfl,hv5,pm0,pw0⟩ ⟨v6,_,rfl,hv6,pm9,pw9⟩
   walk_at "v"
   refine j0h d1 d2 d3 d4 fun H1 e1=>?_
   have h11:=e1 _ _ h10
   have g11:=e1 _ _ h19
   walk_at "v"
   refine j04 (j04 (j04 (j04 (j04 ?_))))
   walk_at "v"
   refine⟨r,_,_,_,_,rfl,(Nb.BagAt.ext e1 B0),?_⟩
   walk_at "v"
   refine j04 (j04 (j04 (j04 (j04 ?_))))
   walk_at "v"
   refine⟨r2,_,_,_,_,rfl,(Nb.BagAt.ext e1 B9),?_⟩
   walk_at "v"
   refine j0h (d:=.int z) .intI .intI rfl rfl fun H2 e2=>?_
   have x2:=e1.tr e2
   have h12:=x2 _ _ h10
   have g12:=x2 _ _ h19
   walk_at "v"
   refine j09 ?_
   rw[show decide (wd=Str.ofString "ways")=false by rw[hwd];decide]
   walk_at "v"
   refine j09 ?_
   rw[show decide (wd=Str.ofString "store")=false by rw[hwd];decide]
   walk_at "v"
   refine j09 ?_
   rw[show decide (wd=Str.ofString "bags")=true by rw[hwd];decide]
   walk_at "v"
   refine⟨r,_,_,_,_,rfl,(Nb.BagAt.ext x2 B0),fun l3 H3 n3 q3 e3=>?_⟩
   walk_at "v"
   refine⟨r2,_,_,_,_,rfl,(Nb.BagAt.ext (x2.tr e3) B9),fun l4 H4 n4 q4 e4=>?_⟩
   walk_at "v"
   exact j0h (Rep.lstInts (e4 _ _ q3)) (Rep.lstInts q4) (plI _) (depI _) fun H5 e5=>hq H5 (((x2.tr e3).tr e4).tr e5)
namespace Nb
def jb6:Sp:=fun vs H Q _=>∃ (p:Addr) (os:List Int) (s:Int) (kk:Nat),vs=[.ref p,.int (kk:Nat),.int s]∧H p=some (.tup (os.map V.int))∧kk < os.length∧os.length≤60∧∀ q (fs:List Int) H',fs.Perm (os.set kk (os.getD kk 0+s))→fs.Pairwise (·≤·)→H' q=some (.tup (fs.map V.int))→Ext H H'→Q (.ref q) H'
theorem ok_filled (T:Txt K mg a):FnOk P w K mg base (CXU P w) 1 a.f_z89 a.d_z89 ["loads","at","size"] (jb6):=by
 refine T.F_z89.okU sc_z89 (fun vs H Q E h=>?_) (fun cdv A outer s H vs Q E hr h=>?_)
 ·obtain⟨p,os,s,kk,rfl,hp,hkk,hl,hq⟩:=h
  rfl
 ·obtain⟨p,os,s,kk,rfl,hp,hkk,hl,hq⟩:=h
  refine⟨_,(j03 (j0a (j0r j3i (by rfl) T.n_tuple PyProof.Rows.boot_tuple (j00 (j07 j37 (by rfl) T.n_sorted PyProof.Rows.boot_sorted (j00 (j0p j1a (j0p j1a (j1u oSl (pv 0) j31 (j27 (pv 1))) (j1h (j00 (j0p j1a (j14 oIx (pv 0) (pv 1) (fun _ _=>rfl)) (pv 2)) j01))) (j1u oSl (pv 0) (j27 (j0p j1a (pv 1) j08)) j31)) j01)) j01)))),?_⟩
  have s1:cutV (os.map V.int) none (some ((kk:Nat):Int))=(os.take kk).map V.int:=by
   unfold cutV
   rw[HT.sIx_nat,HT.sIx_none,List.length_map,List.drop_zero,Nat.sub_zero,Nat.min_eq_left (Nat.le_of_lt hkk),List.map_take]
  have s2:cutV (os.map V.int) (some (((kk:Nat):Int)+1)) none=(os.drop (kk+1)).map V.int:=by
   unfold cutV
   rw[show (((kk:Nat):Int)+1)=((kk+1:Nat):Int) by omega,HT.sIx_nat,HT.sIx_none,List.length_map,Nat.min_eq_left (show kk+1≤os.length by omega),← List.map_drop,List.take_of_length_le (by rw[List.length_map,List.length_drop];exact Nat.le_refl _)]
  have i1:=j21 (ns:=os) (k:=(kk:Nat)) (by omega) (by omega)
  rw[Int.toNat_natCast] at i1
  walk_at "v"
  refine jgt hp (by rintro⟨_,z⟩;rw[HT.sIx_nat,List.length_map] at z;omega) fun l1 H1 n1 q1 e1=>?_
  rw[s1] at q1
  have hp1:=e1 _ _ hp
  walk_at "v"
  refine j1d hp1 i1 ?_
  walk_at "v"
  intro p2 H2 n2 q2 e2
  walk_at "v"
  refine j7v (e2 _ _ q1) q2 (by simp;omega) fun p3 H3 q3 e3=>?_
  have hp3:=e3 _ _ (e2 _ _ hp1)
  walk_at "v"
  refine jgt hp3 (by rintro⟨z,_⟩;rw[show (((kk:Nat):Int)+1)=((kk+1:Nat):Int) by omega,HT.sIx_nat,List.length_map] at z;omega) fun l4 H4 n4 q4 e4=>?_
  rw[s2] at q4
  walk_at "v"
  refine j7v (e4 _ _ q3) q4 (by simp;omega) fun p5 H5 q5 e5=>?_
  rw[show (os.take kk).map V.int++[V.int (os.getD kk 0+s)]++(os.drop (kk+1)).map V.int=(os.set kk (os.getD kk 0+s)).map V.int by rw[← set_tk hkk];simp] at q5
  walk_at "v"
  refine jb0 q5 (by simp;omega) fun l6 ns' H6 n6 hp6 hs6 q6 e6=>?_
  walk_at "v"
  refine j17 q6 fun l7 H7 n7 q7 e7=>?_
  exact hq l7 ns' H7 hp6 hs6 q7 ((((((e1.tr e2).tr e3).tr e4).tr e5).tr e6).tr e7)
end Nb
namespace Nb
def jb7:Sp:=fun vs H Q _=>∃ (p:Addr) (os:List Int) (s:Int),vs=[.ref p,.int s]∧H p=some (.tup (os.map V.int))∧os.length≤60∧∀ q (fs:List Int) H',fs.Perm (os++[s])→fs.Pairwise (·≤·)→H' q=some (.tup (fs.map V.int))→Ext H H'→Q (.ref q) H'
theorem ok_opened (T:Txt K mg a):FnOk P w K mg base (CXU P w) 1 a.f_z90 a.d_z90 ["loads","size"] (jb7):=by
 refine T.F_z90.okU sc_z90 (fun vs H Q E h=>?_) (fun cdv A outer s H vs Q E hr h=>?_)
 ·obtain⟨p,os,s,rfl,hp,hl,hq⟩:=h
  rfl
 ·obtain⟨p,os,s,rfl,hp,hl,hq⟩:=h
  refine⟨_,(j03 (j0a (j0r j3i (by rfl) T.n_tuple PyProof.Rows.boot_tuple (j00 (j07 j37 (by rfl) T.n_sorted PyProof.Rows.boot_sorted (j00 (j0p j1a (pv 0) (j1h (j00 (pv 1) j01))) j01)) j01)))),?_⟩
  walk_at "v"
  intro p1 H1 n1 q1 e1
  walk_at "v"
  refine j7v (e1 _ _ hp) q1 (by simp;omega) fun p2 H2 q2 e2=>?_
  rw[show os.map V.int++[V.int s]=(os++[s]).map V.int by simp] at q2
  walk_at "v"
  refine jb0 q2 (by simp;omega) fun l3 ns' H3 n3 hp3 hs3 q3 e3=>?_
  walk_at "v"
  refine j17 q3 fun l4 H4 n4 q4 e4=>?_
  exact hq l4 ns' H4 hp3 hs3 q4 (((e1.tr e2).tr e3).tr e4)
end Nb
namespace Nb
theorem jb8 {n j:Nat}{p:Nat→Bool}{r:List Nat} (h:(List.range n).filter p=j :: r):j < n∧p j=true∧∀ i,i < j→p i=false:=by
 have hm:j∈(List.range n).filter p:=by rw[h];exact List.mem_cons_self
 obtain⟨m1,m2⟩:=List.mem_filter.mp hm
 refine⟨List.mem_range.mp m1,m2,fun i hi=>?_⟩
 cases e:p i with
 | false=>rfl
 | true =>
  exfalso
  have hi':i∈(List.range n).filter p:=List.mem_filter.mpr ⟨List.mem_range.mpr (by have:=List.mem_range.mp m1;omega),e⟩
  have sl:((List.range n).filter p).Pairwise (· < ·):=List.Pairwise.filter _ List.pairwise_lt_range
  rw[h] at hi' sl
  rcases List.mem_cons.mp hi' with z | z
  ·omega
  ·have:=(List.pairwise_cons.mp sl).1 i z
   omega
def j62 (a:Adr):Sp:=fun vs H Q _=>∃ (w dw b f:Addr) (os fs:List Int) (R s pr:Int),vs=[.ref w,.ref b,.int s,.ref f]∧H w=some (.ins a.c_Bags dw [("room",.int R)])∧H b=some (.tup (os.map V.int))∧H f=some (.tup (fs.map V.int))∧Lds R os∧1≤s∧os.length≤60∧Goes R os s fs pr∧∀ H',Ext H H'→Q (.int pr) H'
theorem ok_Bags_price (T:Txt K mg a):FnOk P w K mg base (CXU P w) 2 a.f_z50 a.d_z50 ["self","before","wish","after"] (j62 a):=by
 refine T.F_z50.okU jf3 (fun vs H Q E h=>?_) (fun cdv A outer s H vs Q E hr h=>?_)
 ·obtain⟨w,dw,b,f,os,fs,R,s,pr,rfl,hw,hb,hf,hos,s1,hl,hg,hq⟩:=h
  rfl
 ·obtain⟨w,dw,b,f,os,fs,R,s,pr,rfl,hw,hb,hf,hos,s1,hl,hg,hq⟩:=h
  have zc_Bags:=T.cl_Bags
  have zn_Bags_room:=T.na_Bags_room
  refine⟨_,(j02 (j0u (j0g jd5 (j07 j1w (by rfl) T.n_len PySem.boot_len (j00 (pv 3) j01)) (j07 j1w (by rfl) T.n_len PySem.boot_len (j00 (pv 1) j01)) (j0m _)) (j03 (j0a (j2o (PW.pt (jda (j0g jd6 (j07 j1w (by rfl) T.n_len PySem.boot_len (j00 (pv 1) j01)) (j12 (v:=V.int 500) (by rfl) T.m_MOST_BAGS ⟨_,rfl⟩) (j0m _)) (jbc (j0g (oEq hr) (pv 3) (j0f (Nb.ok_opened T) (hr.mono (by decide)) (by rfl) T.m_z90 T.F_z90.kp T.b_z90 .nil j0d (j00 (pv 1) (j00 (pv 2) j01))) (j0m _))))) j08 j82))) j0c)
   (j02 (j2i (i:=4) (["at"]:List Str) (["before","after"]:List Str) [1,3] jf3.nd rfl (Or.inl rfl) rfl ⟨rfl,by decide +kernel,by decide +kernel,by rfl,⟨⟨rfl,by first | exact Or.inl rfl | exact Or.inr rfl,by first | exact Or.inl rfl | exact Or.inr rfl⟩,⟨rfl,by first | exact Or.inl rfl | exact Or.inr rfl,by first | exact Or.inl rfl | exact Or.inr rfl⟩,trivial⟩⟩ (j1m rfl T.n_range (j00 (j07 j1w (by rfl) T.n_len PySem.boot_len (j00 (pv 1) j01)) j01)) (fun _ _ _ _=>⟨(j0w (i:=0) (by show ((["at"]:List Str)++(["before","after"]:List Str)).Nodup;decide +kernel) rfl (by first | exact Or.inl rfl | exact Or.inr rfl)),(show PTs _ [_] [_] from⟨(j0g jd5 (j14 oIx (pv 1) (pv 0) (fun _ _=>rfl)) (j14 oIx (pv 2) (pv 0) (fun _ _=>rfl)) (j0m _)),trivial⟩),(pv 0)⟩))
   (j02 (j0u (PW.pt (j34 (j0s (ptT (pv 4) (fun _=>rfl))) (j1k (j0g jfd (j0p j1a (j14 oIx (pv 1) (j14 oIx (pv 4) j08 (fun _ _=>rfl)) (fun _ _=>rfl)) (pv 2)) (j0l (pv 0) rfl) (j0m _))))) (j03 (j0a j82)) j0c)
   (j03 (j0a (j2o (j0g (oEq hr) (pv 3) (j0f (Nb.ok_filled T) (hr.mono (by decide)) (by rfl) T.m_z89 T.F_z89.kp T.b_z89 .nil j0d (j00 (pv 1) (j00 (j14 oIx (pv 4) j08 (fun _ _=>rfl)) (j00 (pv 2) j01)))) (j0m _)) j08 j82)))))),?_⟩
  obtain⟨fsrt,hg⟩:=hg
  walk_at "v"
  refine j0t hf ?_
  rw[List.length_map]
  walk_at "v"
  refine j0t hb ?_
  rw[List.length_map]
  walk_at "v"
  rcases hg with⟨rfl,hpm⟩ | ⟨rfl,k,hk,hR,hpm⟩
  ·have fl:=hpm.length_eq
   rw[List.length_append,List.length_singleton] at fl
   refine iteN (fun _=>?_) (fun z=>by omega)
   walk_at "v"
   refine j0t hb ?_
   rw[List.length_map]
   walk_at "v"
   refine iteD (fun _=>?_) (fun z=>by omega)
   walk_at "v"
   refine⟨b,os,s,rfl,hb,hl,fun q gs H1 hp1 hs1 q1 e1=>?_⟩
   walk_at "v"
   refine jeg (e1 _ _ hf) q1 ?_
   rw[decide_eq_true (sorted_eq (hpm.trans hp1.symm) fsrt hs1)]
   walk_at "v"
   exact hq H1 e1
  ·have fl:=hpm.length_eq
   rw[List.length_set] at fl
   refine iteN (fun z=>by omega) (fun _=>?_)
   walk_at "v"
   refine j0t hb ?_
   rw[List.length_map]
   walk_at "v"
   refine⟨_,rfl,by omega,by omega,fun acc hn _ _ _ _=>j2j (by omega) hn (fun j ys _=>ys=((List.range j).filter fun i=>!decide (os.getD i 0=fs.getD i 0)).map fun (i:Nat)=>V.int (i:Nat)) rfl (fun _ _ _ _ _ h=>h) (fun j ys H' _ h=>by rw[h,List.length_map];exact Nat.le_trans (List.length_filter_le _ _) (by simp)) ?_ ?_⟩
   ·rintro j ys H2 hj e rfl Y N hY hN
    have hb2:=e _ _ hb
    have hf2:=e _ _ hf
    have i1:=j21 (ns:=os) (k:=0+(j:Nat)) (by omega) (by omega)
    have i2:=j21 (ns:=fs) (k:=0+(j:Nat)) (by omega) (by omega)
    rw[show ((0:Int)+(j:Nat)).toNat=j by omega] at i1 i2
    walk_at "v"
    refine j1d hb2 i1 ?_
    walk_at "v"
    refine j1d hf2 i2 ?_
    walk_at "v"
    refine iteN (fun c=>?_) (fun c=>?_)
    ·walk_at "v"
     refine hY _ _ Ext.rfl' ?_
     rw[List.range_succ,List.filter_append,List.map_append]
     simp only[List.filter_cons,List.filter_nil,decide_eq_false c,Bool.not_false,if_true,List.map_cons,List.map_nil]
     rw[show ((0:Int)+(j:Nat))=(j:Nat) by omega]
    ·walk_at "v"
     refine hN _ Ext.rfl' ?_
     rw[List.range_succ,List.filter_append,List.map_append]
     simp only[List.filter_cons,List.filter_nil,decide_eq_true c,Bool.not_true,Bool.false_eq_true,if_false,List.map_nil,List.append_nil]
   rintro ys H2 e ha rfl
   rw[show ((os.length:Int).toNat)=os.length by omega] at ha
   obtain⟨j0,hj0,hd0⟩:=jb4 hk (w:=os.getD k 0+s) (by omega) hpm
   cases hL:(List.range os.length).filter (fun i=>!decide (os.getD i 0=fs.getD i 0)) with
   | nil =>
    have:j0∈(List.range os.length).filter (fun i=>!decide (os.getD i 0=fs.getD i 0)):=List.mem_filter.mpr ⟨List.mem_range.mpr hj0,by rw[decide_eq_false hd0];rfl⟩
    rw[hL] at this
    cases this
   | cons j rest =>
    rw[hL] at ha
    obtain⟨jn,jp,jf⟩:=jb8 hL
    have jne:os.getD j 0≠fs.getD j 0:=by
     intro z
     rw[decide_eq_true z] at jp
     cases jp
    have jeq:∀ i,i < j→os.getD i 0=fs.getD i 0:=fun i hi=>by
     have:=jf i hi
     simpa using this
    have ev:=j9w hos.1 fsrt hk (by omega) hpm jn jeq jne
    have hb2:=e _ _ hb
    have hf2:=e _ _ hf
    have hw2:=e _ _ hw
    have i1:=j21 (ns:=os) (k:=(j:Nat)) (by omega) (by omega)
    rw[Int.toNat_natCast] at i1
    walk_at "v"
    refine jaj (SqL.of ha) ?_
    walk_at "v"
    refine j25 ha (v:=.int (j:Nat)) (j32 (by decide) rfl) ?_
    walk_at "v"
    refine j1d hb2 i1 ?_
    walk_at "v"
    refine iteD (fun c=>by omega) (fun c=>?_)
    walk_at "v"
    refine j25 ha (v:=.int (j:Nat)) (j32 (by decide) rfl) ?_
    walk_at "v"
    refine⟨b,os,s,j,rfl,hb2,jn,hl,fun q gs H3 hp3 hs3 q3 e3=>?_⟩
    walk_at "v"
    refine jeg (e3 _ _ hf2) q3 ?_
    rw[ev] at hp3
    rw[decide_eq_true (sorted_eq (hpm.trans ((jcw hk jn ev.symm).trans hp3.symm)) fsrt hs3)]
    walk_at "v"
    exact hq H3 (e.tr e3)
end Nb
def j8i (a:Adr):Sp:=fun vs H Q _=>∃ (s:RS) (k:Nat) (r w:Addr) (v:V) (ww:W83),vs=[.ref r,.ref w,v]∧s.at_ a H r∧s.ok k∧k≤50∧s.wo a H w∧ww.at_ H v∧s.okW ww∧∀ H',(s.step ww).at_ a H' r→But r H H'→Q (.bl true) H'
theorem j8j (T:Txt K mg a):FnOk P w K mg base (CXU P w) 13 a.f_z83 a.d_z83 ["_law_rule","_law_world","_law_wish_here"] (j8i a):=by
 refine T.F_z83.okU j9u (fun vs H Q E h=>?_) (fun cdv A outer s H vs Q E hr h=>?_)
 ·obtain⟨s,k,r,w,v,ww,rfl,B,hok,hk,hW,hv,hww,hq⟩:=h
  rfl
 ·obtain⟨s,k,r,w,v,ww,rfl,B,hok,hk,hW,hv,hww,hq⟩:=h
  have zc_Both:=T.cl_Both
  have zn_Both_world:=T.na_Both_world
  have zc_Buyer:=T.cl_Buyer
  have zn_Buyer_world:=T.na_Buyer_world
  have zc_Changer:=T.cl_Changer
  have zn_Changer_world:=T.na_Changer_world
  have zc_Filler:=T.cl_Filler
  have zn_Filler_world:=T.na_Filler_world
  have zc_Front:=T.cl_Front
  have zn_Front_world:=T.na_Front_world
  have zc_Keeper:=T.cl_Keeper
  have zn_Keeper_world:=T.na_Keeper_world
  refine⟨_,(j02 (j0u (PW.pt (j34 (j0g j9r (j0i (j0e (pv 1) T.cl_Line T.me_Line_is_wish (Nl.ok_Line_is_wish T) (hr.mono (by decide)) T.b_z35 .nil j0d (j00 (pv 2) j01)) (j0i (j0e (pv 1) T.cl_Shelf T.me_Shelf_is_wish (Ns.ok_Shelf_is_wish T) (hr.mono (by decide)) T.b_z21 .nil j0d (j00 (pv 2) j01)) (j0i (j0e (pv 1) T.cl_Hire T.me_Hire_is_wish (Nh.ok_Hire_is_wish T) (hr.mono (by decide)) T.b_z32 .nil j0d (j00 (pv 2) j01)) (j0i (j0e (pv 1) T.cl_Ways T.me_Ways_is_wish (Nw.ok_Ways_is_wish T) (hr.mono (by decide)) T.b_z36 .nil j0d (j00 (pv 2) j01)) (j0i (j0e (pv 1) T.cl_Store T.me_Store_is_wish (Nk.ok_Store_is_wish T) (hr.mono (by decide)) T.b_z22 .nil j0d (j00 (pv 2) j01)) (j0e (pv 1) T.cl_Bags T.me_Bags_is_wish (Nb.ok_Bags_is_wish T) (hr.mono (by decide)) T.b_z24 .nil j0d (j00 (pv 2) j01))))))) j30 (j0m _)) (j1k (j0g j9r (j0i (j0e (j0l (pv 0) rfl) T.cl_Line T.me_Line_is_wish (Nl.ok_Line_is_wish T) (hr.mono (by decide)) T.b_z35 .nil j0d (j00 (pv 2) j01)) (j0i (j0e (j0l (pv 0) rfl) T.cl_Shelf T.me_Shelf_is_wish (Ns.ok_Shelf_is_wish T) (hr.mono (by decide)) T.b_z21 .nil j0d (j00 (pv 2) j01)) (j0i (j0e (j0l (pv 0) rfl) T.cl_Hire T.me_Hire_is_wish (Nh.ok_Hire_is_wish T) (hr.mono (by decide)) T.b_z32 .nil j0d (j00 (pv 2) j01)) (j0i (j0e (j0l (pv 0) rfl) T.cl_Ways T.me_Ways_is_wish (Nw.ok_Ways_is_wish T) (hr.mono (by decide)) T.b_z36 .nil j0d (j00 (pv 2) j01)) (j0i (j0e (j0l (pv 0) rfl) T.cl_Store T.me_Store_is_wish (Nk.ok_Store_is_wish T) (hr.mono (by decide)) T.b_z22 .nil j0d (j00 (pv 2) j01)) (j0e (j0l (pv 0) rfl) T.cl_Bags T.me_Bags_is_wish (Nb.ok_Bags_is_wish T) (hr.mono (by decide)) T.b_z24 .nil j0d (j00 (pv 2) j01))))))) j30 (j0m _))))) (j03 (j0a j30)) j0c)
   (j02 (j0z (i:=3) j9u.nd rfl (by first | exact Or.inl rfl | exact Or.inr rfl) (j0i (j0b (pv 0) T.cl_Both T.me_Both_state (Nl.ok_Rule_state T) (hr.mono (by decide)) T.b_z56 .nil j0d) (j0i (j0b (pv 0) T.cl_Front T.me_Front_state (Ns.ok_Rule_state T) (hr.mono (by decide)) T.b_z56 .nil j0d) (j0i (j0b (pv 0) T.cl_Buyer T.me_Buyer_state (Nh.ok_Rule_state T) (hr.mono (by decide)) T.b_z56 .nil j0d) (j0i (j0b (pv 0) T.cl_Changer T.me_Changer_state (Nw.ok_Rule_state T) (hr.mono (by decide)) T.b_z56 .nil j0d) (j0i (j0b (pv 0) T.cl_Keeper T.me_Keeper_state (Nk.ok_Rule_state T) (hr.mono (by decide)) T.b_z56 .nil j0d) (j0b (pv 0) T.cl_Filler T.me_Filler_state (Nb.ok_Rule_state T) (hr.mono (by decide)) T.b_z56 .nil j0d)))))))
   (j02 (j0z (i:=4) j9u.nd rfl (by first | exact Or.inl rfl | exact Or.inr rfl) (j0i (j0b (pv 0) T.cl_Both T.me_Both_paid (Nl.ok_Rule_paid T) (hr.mono (by decide)) T.b_z68 .nil j0d) (j0i (j0b (pv 0) T.cl_Front T.me_Front_paid (Ns.ok_Rule_paid T) (hr.mono (by decide)) T.b_z68 .nil j0d) (j0i (j0b (pv 0) T.cl_Buyer T.me_Buyer_paid (Nh.ok_Rule_paid T) (hr.mono (by decide)) T.b_z68 .nil j0d) (j0i (j0b (pv 0) T.cl_Changer T.me_Changer_paid (Nw.ok_Rule_paid T) (hr.mono (by decide)) T.b_z68 .nil j0d) (j0i (j0b (pv 0) T.cl_Keeper T.me_Keeper_paid (Nk.ok_Rule_paid T) (hr.mono (by decide)) T.b_z68 .nil j0d) (j0b (pv 0) T.cl_Filler T.me_Filler_paid (Nb.ok_Rule_paid T) (hr.mono (by decide)) T.b_z68 .nil j0d)))))))
   (j02 (j0z (i:=5) j9u.nd rfl (by first | exact Or.inl rfl | exact Or.inr rfl) (j0i (j0e (pv 0) T.cl_Both T.me_Both_pay (Nl.ok_Rule_pay T) (hr.mono (by decide)) T.b_z79 .nil j0d (j00 (pv 2) j01)) (j0i (j0e (pv 0) T.cl_Front T.me_Front_pay (Ns.ok_Rule_pay T) (hr.mono (by decide)) T.b_z79 .nil j0d (j00 (pv 2) j01)) (j0i (j0e (pv 0) T.cl_Buyer T.me_Buyer_pay (Nh.ok_Rule_pay T) (hr.mono (by decide)) T.b_z79 .nil j0d (j00 (pv 2) j01)) (j0i (j0e (pv 0) T.cl_Changer T.me_Changer_pay (Nw.ok_Rule_pay T) (hr.mono (by decide)) T.b_z79 .nil j0d (j00 (pv 2) j01)) (j0i (j0e (pv 0) T.cl_Keeper T.me_Keeper_pay (Nk.ok_Rule_pay T) (hr.mono (by decide)) T.b_z79 .nil j0d (j00 (pv 2) j01)) (j0e (pv 0) T.cl_Filler T.me_Filler_pay (Nb.ok_Rule_pay T) (hr.mono (by decide)) T.b_z79 .nil j0d (j00 (pv 2) j01))))))))
   (j02 (j0u (PW.pt (j34 (j0s (ptT (j0f (j3q T) (hr.mono (by decide)) (by rfl) T.m_z78 T.F_z78.kp T.b_z78 .nil j0d (j00 (pv 5) j01)) (fun _=>rfl))) (j1k (j0s (ptT (j0f (j0v T) (hr.mono (by decide)) (by rfl) T.m_z84 T.F_z84.kp T.b_z84 .nil j0d (j00 (j0i (j0b (pv 0) T.cl_Both T.me_Both_paid (Nl.ok_Rule_paid T) (hr.mono (by decide)) T.b_z68 .nil j0d) (j0i (j0b (pv 0) T.cl_Front T.me_Front_paid (Ns.ok_Rule_paid T) (hr.mono (by decide)) T.b_z68 .nil j0d) (j0i (j0b (pv 0) T.cl_Buyer T.me_Buyer_paid (Nh.ok_Rule_paid T) (hr.mono (by decide)) T.b_z68 .nil j0d) (j0i (j0b (pv 0) T.cl_Changer T.me_Changer_paid (Nw.ok_Rule_paid T) (hr.mono (by decide)) T.b_z68 .nil j0d) (j0i (j0b (pv 0) T.cl_Keeper T.me_Keeper_paid (Nk.ok_Rule_paid T) (hr.mono (by decide)) T.b_z68 .nil j0d) (j0b (pv 0) T.cl_Filler T.me_Filler_paid (Nb.ok_Rule_paid T) (hr.mono (by decide)) T.b_z68 .nil j0d)))))) (j00 (j0p j1a (pv 4) (pv 5)) j01))) (fun _=>rfl)))))) (j03 (j0a j30)) j0c)
   (j02 (j0z (i:=6) j9u.nd rfl (by first | exact Or.inl rfl | exact Or.inr rfl) (j0i (j0b (pv 0) T.cl_Both T.me_Both_state (Nl.ok_Rule_state T) (hr.mono (by decide)) T.b_z56 .nil j0d) (j0i (j0b (pv 0) T.cl_Front T.me_Front_state (Ns.ok_Rule_state T) (hr.mono (by decide)) T.b_z56 .nil j0d) (j0i (j0b (pv 0) T.cl_Buyer T.me_Buyer_state (Nh.ok_Rule_state T) (hr.mono (by decide)) T.b_z56 .nil j0d) (j0i (j0b (pv 0) T.cl_Changer T.me_Changer_state (Nw.ok_Rule_state T) (hr.mono (by decide)) T.b_z56 .nil j0d) (j0i (j0b (pv 0) T.cl_Keeper T.me_Keeper_state (Nk.ok_Rule_state T) (hr.mono (by decide)) T.b_z56 .nil j0d) (j0b (pv 0) T.cl_Filler T.me_Filler_state (Nb.ok_Rule_state T) (hr.mono (by decide)) T.b_z56 .nil j0d)))))))
   (j03 (j0a (j1t (j0f (j0v T) (hr.mono (by decide)) (by rfl) T.m_z84 T.F_z84.kp T.b_z84 .nil j0d (j00 (j0i (j0e (pv 1) T.cl_Line T.me_Line_price (Nl.ok_Line_price T) (hr.mono (by decide)) T.b_z54 .nil j0d (j00 (pv 3) (j00 (pv 2) (j00 (pv 6) j01)))) (j0i (j0e (pv 1) T.cl_Shelf T.me_Shelf_price (Ns.ok_Shelf_price T) (hr.mono (by decide)) T.b_z46 .nil j0d (j00 (pv 3) (j00 (pv 2) (j00 (pv 6) j01)))) (j0i (j0e (pv 1) T.cl_Hire T.me_Hire_price (Nh.ok_Hire_price T) (hr.mono (by decide)) T.b_z53 .nil j0d (j00 (pv 3) (j00 (pv 2) (j00 (pv 6) j01)))) (j0i (j0e (pv 1) T.cl_Ways T.me_Ways_price (Nw.ok_Ways_price T) (hr.mono (by decide)) T.b_z59 .nil j0d (j00 (pv 3) (j00 (pv 2) (j00 (pv 6) j01)))) (j0i (j0e (pv 1) T.cl_Store T.me_Store_price (Nk.ok_Store_price T) (hr.mono (by decide)) T.b_z47 .nil j0d (j00 (pv 3) (j00 (pv 2) (j00 (pv 6) j01)))) (j0e (pv 1) T.cl_Bags T.me_Bags_price (Nb.ok_Bags_price T) (hr.mono (by decide)) T.b_z50 .nil j0d (j00 (pv 3) (j00 (pv 2) (j00 (pv 6) j01))))))))) (j00 (pv 5) j01))) (j1y (j1n op_isB (j0i (j0e (pv 1) T.cl_Line T.me_Line_is_state (Nl.ok_Line_is_state T) (hr.mono (by decide)) T.b_z19 .nil j0d (j00 (pv 6) j01)) (j0i (j0e (pv 1) T.cl_Shelf T.me_Shelf_is_state (Ns.ok_Shelf_is_state T) (hr.mono (by decide)) T.b_z9 .nil j0d (j00 (pv 6) j01)) (j0i (j0e (pv 1) T.cl_Hire T.me_Hire_is_state (Nh.ok_Hire_is_state T) (hr.mono (by decide)) T.b_z16 .nil j0d (j00 (pv 6) j01)) (j0i (j0e (pv 1) T.cl_Ways T.me_Ways_is_state (Nw.ok_Ways_is_state T) (hr.mono (by decide)) T.b_z23 .nil j0d (j00 (pv 6) j01)) (j0i (j0e (pv 1) T.cl_Store T.me_Store_is_state (Nk.ok_Store_is_state T) (hr.mono (by decide)) T.b_z10 .nil j0d (j00 (pv 6) j01)) (j0e (pv 1) T.cl_Bags T.me_Bags_is_state (Nb.ok_Bags_is_state T) (hr.mono (by decide)) T.b_z12 .nil j0d (j00 (pv 6) j01))))))) j30 (j0m _)))))))))))),?_⟩
  have hok5:=RS.okS hok hww
  have hW5:=RS.step_w ww hW
  have hbig:=RS.big B
  cases s with
  | line m ns z =>
   obtain⟨x,rfl,w0,w1⟩:=hww
   obtain rfl:v=.int x:=hv
   have hW0:=hW
   obtain⟨dw3,k3⟩:=hW
   obtain⟨gd,rfl⟩:=hok
   have B':=B
   obtain⟨dx0,wo0,dw0,sp0,h10,h20,h30⟩:=Nl.LineAt.ex B
   walk_at "v"
   refine j0j ?_
   walk_at "v"
   refine⟨_,.int x,.int,rfl,rfl,?_⟩
   rw[show plc (.int x)=true by show decide ((x.natAbs:Int)≤1000000000000000000)=true;exact decide_eq_true (by omega)]
   walk_at "v"
   refine j19 ?_
   walk_at "v"
   refine j0j ?_
   walk_at "v"
   refine⟨_,.int x,.int,rfl,rfl,?_⟩
   rw[show plc (.int x)=true by show decide ((x.natAbs:Int)≤1000000000000000000)=true;exact decide_eq_true (by omega)]
   walk_at "v"
   refine j19 ?_
   walk_at "v"
   refine j0j ?_
   walk_at "v"
   refine⟨r,_,_,rfl,B,fun v5 hv5=>?_⟩
   walk_at "v"
   refine j0j ?_
   walk_at "v"
   refine⟨r,_,_,rfl,B,?_⟩
   walk_at "v"
   refine j0j ?_
   walk_at "v"
   refine⟨r,ns,z,x,rfl,B,gd,w0,w1,fun H5 B5 b5=>?_⟩
   have C5:RS.at_ a H5 r (.line ns.length (Nl.goB ns x) (z+Nl.ways ns (Nl.goB ns x))):=B5
   have bg5:Big3 H r:=hbig
   have hW7:=RS.woB bg5 b5 hW5
   have C5':=C5
   obtain⟨dx5,wo5,dw5,sp5,h15,h25,h35⟩:=Nl.LineAt.ex C5'
   walk_at "v"
   refine⟨_,.int,rfl,rfl,?_⟩
   walk_at "v"
   refine j0j ?_
   walk_at "v"
   refine⟨r,_,_,rfl,C5,?_⟩
   walk_at "v"
   refine j0h (d:=.int _) .intI .intI rfl rfl fun H6 e6=>?_
   have h16:=e6 _ _ h15
   walk_at "v"
   refine j0j ?_
   walk_at "v"
   refine⟨r,_,_,rfl,(Nl.LineAt.ext e6 C5),fun sp7 hsp7=>?_⟩
   obtain⟨dw7,k7⟩:=RS.woE e6 hW7
   obtain⟨gd5,gl5⟩:Nl.Good (Nl.goB ns x)∧(Nl.goB ns x).length=ns.length:=hok5
   walk_at "v"
   refine j0j ?_
   walk_at "v"
   refine⟨w,v5,sp7,ns,Nl.goB ns x,x,rfl,(e6 _ _ (bg5.tup b5 hv5)),hsp7,(Nl.goB_len gd.srt gd.lo).symm,by have:=gd.hi;omega,fun H8 e8=>?_⟩
   rw[if_pos (Nl.goB_in gd.srt gd.lo)]
   walk_at "v"
   refine j0h (d:=.int _) .intI .intI rfl rfl fun H9 e9=>?_
   have k9:=(e8.tr e9) _ _ k7
   walk_at "v"
   refine j0j ?_
   walk_at "v"
   refine⟨_,_,_,_,rfl,by rw[gl5];exact k9,((e8.tr e9) _ _ hsp7),gd5,fun H10 e10=>?_⟩
   walk_at "v"
   refine j89 ?_
   exact hq H10 (RS.ext (s:=.line ns.length (Nl.goB ns x) (z+Nl.ways ns (Nl.goB ns x))) (e6.tr (e8.tr (e9.tr e10))) C5) (fun b o nb hb=>(e6.tr (e8.tr (e9.tr e10))) b o (b5 b o nb hb))
  | shelf ts ss z =>
   obtain⟨x,rfl,hx⟩:=hww
   obtain rfl:v=.str x:=hv
   have hW0:=hW
   obtain⟨dw3,tp3,k3,kt3⟩:=hW
   obtain⟨hN,hpm⟩:=hok
   have B':=B
   obtain⟨dx0,wo0,dw0,sp0,tp0,h10,h20,h30,h40⟩:=Ns.ShelfAt.ex B
   walk_at "v"
   refine j04 (j0j ?_)
   walk_at "v"
   refine⟨_,_,_,_,x,rfl,k3,kt3,hN.nm x (hpm.mem_iff.mp hx),hx,fun H1 e1=>?_⟩
   walk_at "v"
   refine j19 ?_
   have h1a:=e1 _ _ h10
   have h2a:=e1 _ _ h20
   walk_at "v"
   refine j04 (j0j ?_)
   walk_at "v"
   refine⟨_,_,_,_,x,rfl,h2a,(e1 _ _ h40),hN.nm x (hpm.mem_iff.mp hx),hx,fun H2 e2=>?_⟩
   walk_at "v"
   refine j19 ?_
   have x2:=e1.tr e2
   have h1b:=x2 _ _ h10
   walk_at "v"
   refine j04 (j0j ?_)
   walk_at "v"
   refine⟨r,_,_,_,rfl,(Ns.ShelfAt.ext x2 B),fun v5 hv5=>?_⟩
   walk_at "v"
   refine j04 (j0j ?_)
   walk_at "v"
   refine⟨r,_,_,_,rfl,(Ns.ShelfAt.ext x2 B),?_⟩
   walk_at "v"
   refine j04 (j0j ?_)
   walk_at "v"
   refine⟨r,ss,ts,z,x,rfl,(Ns.ShelfAt.ext x2 B),hN,hpm,hpm.mem_iff.mp hx,fun H5 B5 b5=>?_⟩
   have C5:RS.at_ a H5 r (.shelf ts (frt x ss) (z+((ss.idxOf x:Nat)+1))):=B5
   have bg5:Big3 H2 r:=(show Big3 H2 r from let ⟨C,dx,fs,y1,y2⟩:=hbig;⟨C,dx,fs,x2 _ _ y1,y2⟩)
   have hW7:=RS.woB bg5 b5 (RS.woE x2 hW5)
   have C5':=C5
   obtain⟨dx5,wo5,dw5,sp5,tp5,h15,h25,h35,h45⟩:=Ns.ShelfAt.ex C5'
   walk_at "v"
   refine⟨_,.int,rfl,rfl,?_⟩
   walk_at "v"
   refine j04 (j0j ?_)
   walk_at "v"
   refine⟨r,_,_,_,rfl,C5,?_⟩
   walk_at "v"
   refine j0h (d:=.int _) .intI .intI rfl rfl fun H6 e6=>?_
   have h16:=e6 _ _ h15
   walk_at "v"
   refine j04 (j0j ?_)
   walk_at "v"
   refine⟨r,_,_,_,rfl,(Ns.ShelfAt.ext e6 C5),fun sp7 hsp7=>?_⟩
   obtain⟨dw7,tp7,k7,kt7⟩:=RS.woE e6 hW7
   obtain⟨hN5,hpm5⟩:Names (frt x ss)∧ts.Perm (frt x ss):=hok5
   walk_at "v"
   refine j04 (j0j ?_)
   walk_at "v"
   have fpm:=j57 hN.nd (hpm.mem_iff.mp hx)
   refine⟨w,v5,sp7,ss,frt x ss,x,rfl,(e6 _ _ (bg5.tup b5 hv5)),hsp7,by have:=hN.hi;omega,by rw[fpm.length_eq];have:=hN.hi;omega,fun y hy=>fpm.mem_iff.mpr hy,fpm.mem_iff.mpr (hpm.mem_iff.mp hx),fun H8 e8=>?_⟩
   rw[jbu hN.nd (hpm.mem_iff.mp hx),show (frt x ss).idxOf x=0 by unfold frt;simp,show ((ss.idxOf x:Nat):Int)+((0:Nat):Int)+1=((ss.idxOf x:Nat):Int)+1 by omega]
   walk_at "v"
   refine j0h (d:=.int _) .intI .intI rfl rfl fun H9 e9=>?_
   have k9:=(e8.tr e9) _ _ k7
   walk_at "v"
   refine j04 (j0j ?_)
   walk_at "v"
   refine⟨_,_,_,_,_,_,rfl,k9,((e8.tr e9) _ _ kt7),((e8.tr e9) _ _ hsp7),hN5,hpm5,fun H10 e10=>?_⟩
   walk_at "v"
   refine j89 ?_
   exact hq H10 (RS.ext (s:=.shelf ts (frt x ss) (z+((ss.idxOf x:Nat)+1))) (e6.tr (e8.tr (e9.tr e10))) C5) (fun b o nb hb=>(e6.tr (e8.tr (e9.tr e10))) b o (b5 b o nb (x2 b o hb)))
  | hire W st z =>
   obtain⟨x,rfl,w0,w1⟩:=hww
   obtain rfl:v=.int x:=hv
   have hW0:=hW
   obtain⟨dw3,k3⟩:=hW
   obtain⟨W1,W2,hst⟩:=hok
   have B':=B
   obtain⟨dx0,wo0,dw0,h10,h20⟩:=Nh.BuyAt.ex B
   walk_at "v"
   refine j04 (j04 (j0j ?_))
   walk_at "v"
   refine⟨_,.int x,.int,rfl,rfl,?_⟩
   rw[show amt (.int x)=true by show (decide (0≤x) && decide (x≤1000000000000000000))=true;rw[decide_eq_true w0,decide_eq_true w1];rfl]
   walk_at "v"
   refine j19 ?_
   walk_at "v"
   refine j04 (j04 (j0j ?_))
   walk_at "v"
   refine⟨_,.int x,.int,rfl,rfl,?_⟩
   rw[show amt (.int x)=true by show (decide (0≤x) && decide (x≤1000000000000000000))=true;rw[decide_eq_true w0,decide_eq_true w1];rfl]
   walk_at "v"
   refine j19 ?_
   walk_at "v"
   refine j04 (j04 (j0j ?_))
   walk_at "v"
   refine⟨r,_,_,_,rfl,B,?_⟩
   walk_at "v"
   refine j04 (j04 (j0j ?_))
   walk_at "v"
   refine⟨r,_,_,_,rfl,B,?_⟩
   walk_at "v"
   refine j04 (j04 (j0j ?_))
   walk_at "v"
   refine⟨r,W,st,z,x,rfl,B,w0,w1,fun H5 B5 b5=>?_⟩
   have C5:RS.at_ a H5 r (.hire W (j8e W st z x) (z+jcz W st z x)):=B5
   have bg5:Big3 H r:=hbig
   have hW7:=RS.woB bg5 b5 hW5
   have C5':=C5
   obtain⟨dx5,wo5,dw5,h15,h25⟩:=Nh.BuyAt.ex C5'
   walk_at "v"
   refine⟨_,.int,rfl,rfl,?_⟩
   walk_at "v"
   refine j04 (j04 (j0j ?_))
   walk_at "v"
   refine⟨r,_,_,_,rfl,C5,?_⟩
   walk_at "v"
   refine j0h (d:=.int _) .intI .intI rfl rfl fun H6 e6=>?_
   have h16:=e6 _ _ h15
   walk_at "v"
   refine j04 (j04 (j0j ?_))
   walk_at "v"
   refine⟨r,_,_,_,rfl,(Nh.BuyAt.ext e6 C5),?_⟩
   obtain⟨dw7,k7⟩:=RS.woE e6 hW7
   obtain⟨_,_,hst5⟩:1≤W∧W≤1000000000000000000∧(j8e W st z x=0∨j8e W st z x=1):=hok5
   walk_at "v"
   refine j04 (j04 (j0j ?_))
   walk_at "v"
   refine⟨w,dw7,W,st,.int x,j8e W st z x,rfl,k7,?_⟩
   rw[show Nh.prc W st (.int x) (j8e W st z x)=.int (jcz W st z x) from Nh.prc_cst W st z x]
   walk_at "v"
   refine j0h (d:=.int _) .intI .intI rfl rfl fun H9 e9=>?_
   have k9:=e9 _ _ k7
   walk_at "v"
   refine j04 (j04 (j0j ?_))
   walk_at "v"
   refine⟨_,_,.int,rfl,rfl,?_⟩
   rw[show Nh.st01 (.int (j8e W st z x))=true by rcases hst5 with e | e <;> rw[e] <;> rfl]
   walk_at "v"
   refine j89 ?_
   exact hq H9 (RS.ext (s:=.hire W (j8e W st z x) (z+jcz W st z x)) (e6.tr e9) C5) (fun b o nb hb=>(e6.tr e9) b o (b5 b o nb hb))
  | ways n t ns h z =>
   obtain⟨cs,rfl,hcl,hcs⟩:=hww
   obtain⟨cp,rfl,hcp⟩:=hv
   have hW0:=hW
   obtain⟨dw3,k3⟩:=hW
   obtain⟨wk,rfl⟩:=hok
   have B':=B
   obtain⟨dx0,wo0,dw0,q0,h10,h20,h30⟩:=Nw.WaysAt.ex B
   walk_at "v"
   refine j04 (j04 (j04 (j0j ?_)))
   walk_at "v"
   refine⟨_,_,cp,cs,_,rfl,by rw[hcl];exact k3,hcp,by rw[hcl];exact wk.hi,hcs,fun H1 e1=>?_⟩
   walk_at "v"
   refine j19 ?_
   have h1a:=e1 _ _ h10
   have h2a:=e1 _ _ h20
   walk_at "v"
   refine j04 (j04 (j04 (j0j ?_)))
   walk_at "v"
   refine⟨_,_,cp,cs,_,rfl,by rw[hcl];exact h2a,(e1 _ _ hcp),by rw[hcl];exact wk.hi,hcs,fun H2 e2=>?_⟩
   walk_at "v"
   refine j19 ?_
   have x2:=e1.tr e2
   have h1b:=x2 _ _ h10
   walk_at "v"
   refine j04 (j04 (j04 (j0j ?_)))
   walk_at "v"
   refine⟨r,_,_,_,_,rfl,(Nw.WaysAt.ext x2 B),?_⟩
   walk_at "v"
   refine j04 (j04 (j04 (j0j ?_)))
   walk_at "v"
   refine⟨r,_,_,_,_,rfl,(Nw.WaysAt.ext x2 B),?_⟩
   walk_at "v"
   refine j04 (j04 (j04 (j0j ?_)))
   walk_at "v"
   refine⟨r,cp,ns,cs,h,t,z,rfl,(Nw.WaysAt.ext x2 B),(x2 _ _ hcp),wk,⟨hcl,hcs⟩,fun H5 B5 b5=>?_⟩
   have C5:RS.at_ a H5 r (.ways ns.length t (Nw.upW ns cs t) (Nw.goW ns cs t h) (z+Nw.prc cs h (Nw.goW ns cs t h) t)):=B5
   have bg5:Big3 H2 r:=(show Big3 H2 r from let ⟨C,dx,fs,y1,y2⟩:=hbig;⟨C,dx,fs,x2 _ _ y1,y2⟩)
   have hW7:=RS.woB bg5 b5 (RS.woE x2 hW5)
   have C5':=C5
   obtain⟨dx5,wo5,dw5,q5,h15,h25,h35⟩:=Nw.WaysAt.ex C5'
   walk_at "v"
   refine⟨_,.int,rfl,rfl,?_⟩
   walk_at "v"
   refine j04 (j04 (j04 (j0j ?_)))
   walk_at "v"
   refine⟨r,_,_,_,_,rfl,C5,?_⟩
   walk_at "v"
   refine j0h (d:=.int _) .intI .intI rfl rfl fun H6 e6=>?_
   have h16:=e6 _ _ h15
   walk_at "v"
   refine j04 (j04 (j04 (j0j ?_)))
   walk_at "v"
   refine⟨r,_,_,_,_,rfl,(Nw.WaysAt.ext e6 C5),?_⟩
   obtain⟨dw7,k7⟩:=RS.woE e6 hW7
   obtain⟨wk5,wl5⟩:Nw.WOk (Nw.upW ns cs t) (Nw.goW ns cs t h) t∧(Nw.upW ns cs t).length=ns.length:=hok5
   walk_at "v"
   refine j04 (j04 (j04 (j0j ?_)))
   walk_at "v"
   refine⟨w,dw7,cp,cs,_,h,_,t,rfl,k7,(e6 _ _ (bg5.tup b5 (x2 _ _ hcp))),(Nw.goW_in wk ⟨hcl,hcs⟩).1,by have:=(Nw.goW_in wk ⟨hcl,hcs⟩).2;omega,?_⟩
   walk_at "v"
   refine j0h (d:=.int _) .intI .intI rfl rfl fun H9 e9=>?_
   have k9:=e9 _ _ k7
   walk_at "v"
   refine j04 (j04 (j04 (j0j ?_)))
   walk_at "v"
   refine⟨_,_,_,_,_,rfl,k9,wk5.h0,by have:=wk5.h1;rw[wl5] at this;exact this,?_⟩
   walk_at "v"
   refine j89 ?_
   exact hq H9 (RS.ext (s:=.ways ns.length t (Nw.upW ns cs t) (Nw.goW ns cs t h) (z+Nw.prc cs h (Nw.goW ns cs t h) t)) (e6.tr e9) C5) (fun b o nb hb=>(e6.tr e9) b o (b5 b o nb (x2 b o hb)))
  | store m row z =>
   obtain⟨x,rfl,hx⟩:=hww
   obtain rfl:v=.str x:=hv
   have hW0:=hW
   obtain⟨dw3,k3⟩:=hW
   obtain⟨hN,rfl⟩:=hok
   have B':=B
   obtain⟨dx0,wo0,dw0,sp0,q0,ss0,kk0⟩:=Nk.KeepAt.ex B
   have h10:=kk0.hr
   have h20:=kk0.hw
   walk_at "v"
   refine j04 (j04 (j04 (j04 (j0j ?_))))
   walk_at "v"
   refine⟨_,x,rfl,hx,fun H1 e1=>?_⟩
   walk_at "v"
   refine j19 ?_
   have h1a:=e1 _ _ h10
   have h2a:=e1 _ _ h20
   walk_at "v"
   refine j04 (j04 (j04 (j04 (j0j ?_))))
   walk_at "v"
   refine⟨_,x,rfl,hx,fun H2 e2=>?_⟩
   walk_at "v"
   refine j19 ?_
   have x2:=e1.tr e2
   have h1b:=x2 _ _ h10
   walk_at "v"
   refine j04 (j04 (j04 (j04 (j0j ?_))))
   walk_at "v"
   refine⟨r,_,_,rfl,(Nk.KeepAt.ext x2 B),fun v5 v5s v5p v5o hv5=>?_⟩
   walk_at "v"
   refine j04 (j04 (j04 (j04 (j0j ?_))))
   walk_at "v"
   refine⟨r,_,_,rfl,(Nk.KeepAt.ext x2 B),?_⟩
   walk_at "v"
   refine j04 (j04 (j04 (j04 (j0j ?_))))
   walk_at "v"
   refine⟨r,row,z,x,rfl,(Nk.KeepAt.ext x2 B),hN,hx,fun H5 B5 b5=>?_⟩
   have C5:RS.at_ a H5 r (.store row.length (Nk.beh x row) (z+Nk.cst x row)):=B5
   have bg5:Big3 H2 r:=(show Big3 H2 r from let ⟨C,dx,fs,y1,y2⟩:=hbig;⟨C,dx,fs,x2 _ _ y1,y2⟩)
   have hW7:=RS.woB bg5 b5 (RS.woE x2 hW5)
   have C5':=C5
   obtain⟨dx5,wo5,dw5,sp5,q5,ss5,kk5⟩:=Nk.KeepAt.ex C5'
   have h15:=kk5.hr
   have h25:=kk5.hw
   walk_at "v"
   refine⟨_,.int,rfl,rfl,?_⟩
   walk_at "v"
   refine j04 (j04 (j04 (j04 (j0j ?_))))
   walk_at "v"
   refine⟨r,_,_,rfl,C5,?_⟩
   walk_at "v"
   refine j0h (d:=.int _) .intI .intI rfl rfl fun H6 e6=>?_
   have h16:=e6 _ _ h15
   walk_at "v"
   refine j04 (j04 (j04 (j04 (j0j ?_))))
   walk_at "v"
   refine⟨r,_,_,rfl,(Nk.KeepAt.ext e6 C5),fun sp7 ss7 pm7 so7 hsp7=>?_⟩
   obtain⟨dw7,k7⟩:=RS.woE e6 hW7
   obtain⟨hN5,hl5⟩:Names (Nk.beh x row)∧(Nk.beh x row).length=row.length:=hok5
   walk_at "v"
   refine j04 (j04 (j04 (j04 (j0j ?_))))
   walk_at "v"
   refine⟨w,v5,sp7,v5s,ss7,x,rfl,(e6 _ _ (bg5.tup b5 hv5)),hsp7,by rw[pm7.length_eq,(Nk.beh_names hN hx).2];have:=hN.hi;omega,pm7.mem_iff.mpr (Nk.beh_mem x row),fun H8 e8=>?_⟩
   rw[show (((ss7.filter fun t=>!decide (t∈v5s)).length:Nat):Int)=Nk.cst x row by rw[← Nk.beh_cost hN.nd pm7];congr 2;exact List.filter_congr fun y _=>by rw[decide_eq_decide.mpr v5p.mem_iff]]
   walk_at "v"
   refine j0h (d:=.int _) .intI .intI rfl rfl fun H9 e9=>?_
   have k9:=(e8.tr e9) _ _ k7
   walk_at "v"
   refine j04 (j04 (j04 (j04 (j0j ?_))))
   walk_at "v"
   refine⟨_,_,_,ss7,rfl,by rw[pm7.length_eq,hl5];exact k9,((e8.tr e9) _ _ hsp7),hN5.perm pm7,so7,fun H10 e10=>?_⟩
   walk_at "v"
   refine j89 ?_
   exact hq H10 (RS.ext (s:=.store row.length (Nk.beh x row) (z+Nk.cst x row)) (e6.tr (e8.tr (e9.tr e10))) C5) (fun b o nb hb=>(e6.tr (e8.tr (e9.tr e10))) b o (b5 b o nb (x2 b o hb)))
  | bags R ps z =>
   obtain⟨x,rfl,w0,w1⟩:=hww
   obtain rfl:v=.int x:=hv
   have hW0:=hW
   obtain⟨dw3,k3⟩:=hW
   obtain⟨R1,R2,hps,hpl⟩:=hok
   have B':=B
   obtain⟨ss0,B0,pm0,pw0⟩:=B
   obtain⟨dx0,wo0,dw0,sp0,q0,h10,h20,h30,h40⟩:=Nb.BagAt.ex B0
   walk_at "v"
   refine j04 (j04 (j04 (j04 (j04 ?_))))
   walk_at "v"
   refine⟨_,_,R,.int x,.int,rfl,k3,rfl,?_⟩
   rw[show fot R (.int x)=true by show (decide (1≤x) && decide (x≤R))=true;rw[decide_eq_true w0,decide_eq_true w1];rfl]
   walk_at "v"
   refine j19 ?_
   walk_at "v"
   refine j04 (j04 (j04 (j04 (j04 ?_))))
   walk_at "v"
   refine⟨_,_,R,.int x,.int,rfl,h20,rfl,?_⟩
   rw[show fot R (.int x)=true by show (decide (1≤x) && decide (x≤R))=true;rw[decide_eq_true w0,decide_eq_true w1];rfl]
   walk_at "v"
   refine j19 ?_
   walk_at "v"
   refine j04 (j04 (j04 (j04 (j04 ?_))))
   walk_at "v"
   refine⟨r,_,_,_,_,rfl,B0,fun v5 hv5=>?_⟩
   walk_at "v"
   refine j04 (j04 (j04 (j04 (j04 ?_))))
   walk_at "v"
   refine⟨r,_,_,_,_,rfl,B0,?_⟩
   walk_at "v"
   refine j04 (j04 (j04 (j04 (j04 ?_))))
   walk_at "v"
   refine⟨r,R,z,x,ps,ss0,rfl,B0,w0,w1,by omega,fun ss5 q5 H5 nq5 pm5 pw5 B5 b5=>?_⟩
   have C5:RS.at_ a H5 r (.bags R (Nb.beh ps x R) (z+(((Nb.beh ps x R).length:Int)-ps.length))):=⟨ss5,by rw[pm0.length_eq] at B5;exact B5.at_,pm5,pw5⟩
   rw[pm0.length_eq]
   have bg5:Big3 H r:=hbig
   have hW7:=RS.woB bg5 b5 hW5
   have C5':=C5
   obtain⟨ss7,B7,pm7,pw7⟩:=C5'
   obtain⟨dx7,wo7,dw7,sp7,q7,h17,h27,h37,h47⟩:=Nb.BagAt.ex B7
   walk_at "v"
   refine⟨_,.int,rfl,rfl,?_⟩
   walk_at "v"
   refine j04 (j04 (j04 (j04 (j04 ?_))))
   walk_at "v"
   refine⟨r,_,_,_,_,rfl,B7,?_⟩
   walk_at "v"
   refine j0h (d:=.int _) .intI .intI rfl rfl fun H6 e6=>?_
   have h16:=e6 _ _ h17
   walk_at "v"
   refine j04 (j04 (j04 (j04 (j04 ?_))))
   walk_at "v"
   refine⟨r,_,_,_,_,rfl,(Nb.BagAt.ext e6 B7),fun sp7 hsp7=>?_⟩
   obtain⟨dw7,k7⟩:=RS.woE e6 hW7
   obtain⟨_,_,hps5,hpl5⟩:1≤R∧R≤1000000000000000000∧(∀ y∈Nb.beh ps x R,1≤y∧y≤R)∧(Nb.beh ps x R).length≤k+1:=hok5
   walk_at "v"
   refine j04 (j04 (j04 (j04 (j04 ?_))))
   walk_at "v"
   refine⟨w,dw7,v5,sp7,ss0,ss7,R,x,_,rfl,k7,(e6 _ _ (bg5.tup b5 hv5)),hsp7,⟨pw0,fun y hy=>hps y (pm0.mem_iff.mp hy)⟩,w0,by rw[pm0.length_eq];omega,jd0 w0 pm0 pm7 pw7,fun H8 e8=>?_⟩
   walk_at "v"
   refine j0h (d:=.int _) .intI .intI rfl rfl fun H9 e9=>?_
   have k9:=(e8.tr e9) _ _ k7
   walk_at "v"
   refine j04 (j04 (j04 (j04 (j04 ?_))))
   walk_at "v"
   refine⟨_,_,_,_,ss7,rfl,k9,((e8.tr e9) _ _ hsp7),by rw[pm7.length_eq];omega,(fun y hy=>hps5 y (pm7.mem_iff.mp hy)),pw7,fun H10 e10=>?_⟩
   walk_at "v"
   refine j89 ?_
   exact hq H10 (RS.ext (s:=.bags R (Nb.beh ps x R) (z+(((Nb.beh ps x R).length:Int)-ps.length))) (e6.tr (e8.tr (e9.tr e10))) C5) (fun b o nb hb=>(e6.tr (e8.tr (e9.tr e10))) b o (b5 b o nb hb))
namespace Nb
def sp_Rule_init (a:Adr):Sp:=fun vs H Q _=>∃ (x dx w dw p:Addr) (R:Int),vs=[.ref x,.ref w,.ref p]∧H x=some (.ins a.c_Filler dx [])∧H w=some (.ins a.c_Bags dw [("room",.int R)])∧H p=some (.tup [])∧∀ H',H' x=some (.ins a.c_Filler dx [("world",.ref w),("standing",.ref p),("spent",.int 0)])→But x H H'→Q .non H'
theorem ok_Rule_init (T:Txt K mg a):FnOk P w K mg base (CXU P w) 4 a.f_z67 a.d_z67 ["self","world","start"] (sp_Rule_init a):=by
 refine T.F_z67.okU j8c (fun vs H Q E h=>?_) (fun cdv A outer s H vs Q E hr h=>?_)
 ·obtain⟨x,dx,w,dw,p,R,rfl,hx,hw,hp,hq⟩:=h
  rfl
 ·obtain⟨x,dx,w,dw,p,R,rfl,hx,hw,hp,hq⟩:=h
  have zc_Both:=T.cl_Both
  have zn_Both_world:=T.na_Both_world
  have zn_Both_standing:=T.na_Both_standing
  have zn_Both_spent:=T.na_Both_spent
  have zc_Buyer:=T.cl_Buyer
  have zn_Buyer_world:=T.na_Buyer_world
  have zn_Buyer_standing:=T.na_Buyer_standing
  have zn_Buyer_spent:=T.na_Buyer_spent
  have zc_Changer:=T.cl_Changer
  have zn_Changer_world:=T.na_Changer_world
  have zn_Changer_standing:=T.na_Changer_standing
  have zn_Changer_spent:=T.na_Changer_spent
  have zc_Filler:=T.cl_Filler
  have zn_Filler_world:=T.na_Filler_world
  have zn_Filler_standing:=T.na_Filler_standing
  have zn_Filler_spent:=T.na_Filler_spent
  have zc_Front:=T.cl_Front
  have zn_Front_world:=T.na_Front_world
  have zn_Front_standing:=T.na_Front_standing
  have zn_Front_spent:=T.na_Front_spent
  have zc_Keeper:=T.cl_Keeper
  have zn_Keeper_world:=T.na_Keeper_world
  have zn_Keeper_standing:=T.na_Keeper_standing
  have zn_Keeper_spent:=T.na_Keeper_spent
  refine⟨_,(j02 (j0u (j0s (ptT (j0e (pv 1) T.cl_Bags T.me_Bags_is_state (Nb.ok_Bags_is_state T) (hr.mono (by decide)) T.b_z12 .nil j0d (j00 (pv 2) j01)) (fun _=>rfl))) (j03 j11) j0c)
   (j02 (j0x (pv 0) (pv 1) rfl)
   (j02 (j0x (pv 0) (pv 2) rfl)
   (j03 (j0x (pv 0) j08 rfl))))),?_⟩
  walk_at "v"
  refine⟨w,dw,p,R,[],rfl,hw,hp,by decide,(fun x hx=>by cases hx),.nil,fun H1 e1=>?_⟩
  walk_at "v"
  refine j1p (e1 _ _ hx) T.cl_Filler T.na_Filler_world (j0y rfl) fun H2 h2 b2=>?_
  walk_at "v"
  refine j1p h2 T.cl_Filler T.na_Filler_standing (j0y rfl) fun H3 h3 b3=>?_
  walk_at "v"
  refine j1p h3 T.cl_Filler T.na_Filler_spent (j0y rfl) fun H4 h4 b4=>?_
  exact hq H4 h4 (Ext.toBut e1 (But.tr (But.tr b2 b3) b4))
end Nb
namespace Nb
def j6z (a:Adr):Sp:=fun vs H Q _=>∃ x dx v,vs=[.ref x,v]∧H x=some (.ins a.c_Bags dx [])∧∀ H',H' x=some (.ins a.c_Bags dx [("room",v)])→But x H H'→Q .non H'
theorem ok_Bags_init (T:Txt K mg a):FnOk P w K mg base (CXU P w) 1 a.f_z63 a.d_z63 ["self","room"] (j6z a):=by
 refine T.F_z63.okU sc_z63 (fun vs H Q E h=>?_) (fun cdv A outer s H vs Q E hr h=>?_)
 ·obtain⟨x,dx,v,rfl,hx,hq⟩:=h
  rfl
 ·obtain⟨x,dx,v,rfl,hx,hq⟩:=h
  have zc_Bags:=T.cl_Bags
  have zn_Bags_room:=T.na_Bags_room
  refine⟨_,(j03 (j0x (pv 0) (pv 1) rfl)),?_⟩
  walk_at "v"
  refine j1p hx T.cl_Bags T.na_Bags_room (j0y rfl) fun H' h1 h2=>?_
  exact hq H' h1 h2
end Nb
namespace Nb
def j5d (a:Adr):Sp:=fun vs H Q _=>∃ (x dx:Addr) (R:Int),vs=[.ref x,.int R]∧H x=some (.ins a.c_Filler dx [])∧1≤R∧R≤1000000000000000000∧∀ H',BagAt a H' x R [] [] 0→But x H H'→Q .non H'
theorem ok_Filler_init (T:Txt K mg a):FnOk P w K mg base (CXU P w) 6 a.f_z44 a.d_z44 ["self","room"] (j5d a):=by
 refine T.F_z44.okU sc_z44 (fun vs H Q E h=>?_) (fun cdv A outer s H vs Q E hr h=>?_)
 ·obtain⟨x,dx,R,rfl,hx,r1,r2,hq⟩:=h
  rfl
 ·obtain⟨x,dx,R,rfl,hx,r1,r2,hq⟩:=h
  have zc_Filler:=T.cl_Filler
  have zn_Filler_packed:=T.na_Filler_packed
  refine⟨_,(j02 (j0u (PW.pt (j34 (j0s (ptT (j0f (j1i T) (hr.mono (by decide)) (by rfl) T.m_z71 T.F_z71.kp T.b_z71 .nil j0d (j00 (pv 1) j01)) (fun _=>rfl))) (j1k (j0g (oEq hr) (pv 1) j08 (j0m _))))) (j03 j11) j0c)
   (j02 (j1l (j2s (C:=a.c_Bound) (j12 (v:=V.ref a.c_Bound) (by rfl) T.m_Bound rfl) T.cm_Bound_init (Nb.ok_Rule_init T) (hr.mono (by decide)) T.b_z67 .nil j0d (j00 (pv 0) (j00 (j18 T.mk_Bags (Nb.ok_Bags_init T) (hr.mono (by decide)) (by rfl) T.m_Bags T.b_z63 .nil j0d (j00 (pv 1) j01)) (j00 (j1h j01) j01)))))
   (j03 (j0x (pv 0) (j35 j01) rfl)))),?_⟩
  walk_at "v"
  refine⟨.int R,.int,rfl,rfl,?_⟩
  rw[show amt (.int R)=true by show (decide (0≤R) && decide (R≤1000000000000000000))=true;rw[decide_eq_true (by omega),decide_eq_true r2];rfl]
  walk_at "v"
  refine iteD (fun c=>?_) (fun c=>?_)
  ·omega
  walk_at "v"
  intro w dw k1 k2 k3
  have nx:w≠x:=(j05 hx k1).symm
  refine⟨w,dw,.int R,rfl,j0k,fun H1 h1' b1=>⟨rfl,?_⟩⟩
  have x1:Ext H H1:=fun b o hb=>b1 b o (j05 hb k1) (by rw[j0o (j05 hb k1),j0o (j05 hb k2)];exact hb)
  walk_at "v"
  intro p2 H2 n2 q2 e2
  walk_at "v"
  refine⟨x,dx,w,dw,p2,R,rfl,e2 _ _ (x1 _ _ hx),e2 _ _ h1',q2,fun H3 h3 b3=>?_⟩
  have np:p2≠x:=(j05 (x1 _ _ hx) n2).symm
  walk_at "v"
  intro p4 H4 n4 q4 e4
  walk_at "v"
  refine j1p (e4 _ _ h3) T.cl_Filler T.na_Filler_packed (j0y rfl) fun H5 h5 b5=>?_
  have n5:p4≠x:=(j05 h3 n4).symm
  refine hq H5 ⟨dx,w,dw,p2,p4,h5,b5 _ _ nx (e4 _ _ (b3 _ _ nx (e2 _ _ h1'))),b5 _ _ np (e4 _ _ (b3 _ _ np q2)),b5 _ _ n5 q4⟩ ?_
  exact Ext.toBut (x1.tr e2) (b3.tr (Ext.toBut e4 b5))
end Nb
namespace Nk
def sp_Rule_init (a:Adr):Sp:=fun vs H Q _=>∃ (x dx w dw p:Addr) (ss:List Str),vs=[.ref x,.ref w,.ref p]∧H x=some (.ins a.c_Keeper dx [])∧H w=some (.ins a.c_Store dw [("many",.int (ss.length:Nat))])∧H p=some (.tup (ss.map V.str))∧Names ss∧sortedS ss=true∧∀ H',H' x=some (.ins a.c_Keeper dx [("world",.ref w),("standing",.ref p),("spent",.int 0)])→But x H H'→Q .non H'
theorem ok_Rule_init (T:Txt K mg a):FnOk P w K mg base (CXU P w) 4 a.f_z67 a.d_z67 ["self","world","start"] (sp_Rule_init a):=by
 refine T.F_z67.okU j8c (fun vs H Q E h=>?_) (fun cdv A outer s H vs Q E hr h=>?_)
 ·obtain⟨x,dx,w,dw,p,ss,rfl,hx,hw,hp,hN,hso,hq⟩:=h
  rfl
 ·obtain⟨x,dx,w,dw,p,ss,rfl,hx,hw,hp,hN,hso,hq⟩:=h
  have zc_Both:=T.cl_Both
  have zn_Both_world:=T.na_Both_world
  have zn_Both_standing:=T.na_Both_standing
  have zn_Both_spent:=T.na_Both_spent
  have zc_Buyer:=T.cl_Buyer
  have zn_Buyer_world:=T.na_Buyer_world
  have zn_Buyer_standing:=T.na_Buyer_standing
  have zn_Buyer_spent:=T.na_Buyer_spent
  have zc_Changer:=T.cl_Changer
  have zn_Changer_world:=T.na_Changer_world
  have zn_Changer_standing:=T.na_Changer_standing
  have zn_Changer_spent:=T.na_Changer_spent
  have zc_Filler:=T.cl_Filler
  have zn_Filler_world:=T.na_Filler_world
  have zn_Filler_standing:=T.na_Filler_standing
  have zn_Filler_spent:=T.na_Filler_spent
  have zc_Front:=T.cl_Front
  have zn_Front_world:=T.na_Front_world
  have zn_Front_standing:=T.na_Front_standing
  have zn_Front_spent:=T.na_Front_spent
  have zc_Keeper:=T.cl_Keeper
  have zn_Keeper_world:=T.na_Keeper_world
  have zn_Keeper_standing:=T.na_Keeper_standing
  have zn_Keeper_spent:=T.na_Keeper_spent
  refine⟨_,(j02 (j0u (j0s (ptT (j0e (pv 1) T.cl_Store T.me_Store_is_state (Nk.ok_Store_is_state T) (hr.mono (by decide)) T.b_z10 .nil j0d (j00 (pv 2) j01)) (fun _=>rfl))) (j03 j11) j0c)
   (j02 (j0x (pv 0) (pv 1) rfl)
   (j02 (j0x (pv 0) (pv 2) rfl)
   (j03 (j0x (pv 0) j08 rfl))))),?_⟩
  walk_at "v"
  refine⟨w,dw,p,ss,rfl,hw,hp,hN,hso,fun H1 e1=>?_⟩
  walk_at "v"
  refine j1p (e1 _ _ hx) T.cl_Keeper T.na_Keeper_world (j0y rfl) fun H2 h2 b2=>?_
  walk_at "v"
  refine j1p h2 T.cl_Keeper T.na_Keeper_standing (j0y rfl) fun H3 h3 b3=>?_
  walk_at "v"
  refine j1p h3 T.cl_Keeper T.na_Keeper_spent (j0y rfl) fun H4 h4 b4=>?_
  exact hq H4 h4 (Ext.toBut e1 (But.tr (But.tr b2 b3) b4))
end Nk
namespace Nk
def j63 (a:Adr):Sp:=fun vs H Q _=>∃ x dx v,vs=[.ref x,v]∧H x=some (.ins a.c_Store dx [])∧∀ H',H' x=some (.ins a.c_Store dx [("many",v)])→But x H H'→Q .non H'
theorem ok_Store_init (T:Txt K mg a):FnOk P w K mg base (CXU P w) 1 a.f_z58 a.d_z58 ["self","many"] (j63 a):=by
 refine T.F_z58.okU sc_z58 (fun vs H Q E h=>?_) (fun cdv A outer s H vs Q E hr h=>?_)
 ·obtain⟨x,dx,v,rfl,hx,hq⟩:=h
  rfl
 ·obtain⟨x,dx,v,rfl,hx,hq⟩:=h
  have zc_Line:=T.cl_Line
  have zn_Line_many:=T.na_Line_many
  have zc_Store:=T.cl_Store
  have zn_Store_many:=T.na_Store_many
  have zc_Ways:=T.cl_Ways
  have zn_Ways_many:=T.na_Ways_many
  refine⟨_,(j03 (j0x (pv 0) (pv 1) rfl)),?_⟩
  walk_at "v"
  refine j1p hx T.cl_Store T.na_Store_many (j0y rfl) fun H' h1 h2=>?_
  exact hq H' h1 h2
end Nk
def j2z:Sp:=fun vs H Q _=>∃ (p:Addr) (ss:List Str),vs=[.ref p]∧H p=some (.tup (ss.map V.str))∧(∀ s∈ss,nmS s=true)∧ss.Nodup∧1≤ss.length∧ss.length≤8∧∀ H',Ext H H'→Q (.bl true) H'
theorem j1s (T:Txt K mg a):FnOk P w K mg base (CXU P w) 3 a.f_z5 a.d_z5 ["thing"] (j2z):=by
 refine T.F_z5.okU sc_z5 (fun vs H Q E h=>?_) (fun cdv A outer s H vs Q E hr h=>?_)
 ·obtain⟨p,ss,rfl,hp,hn',hd,l1,l8,hq⟩:=h
  rfl
 ·obtain⟨p,ss,rfl,hp,hn',hd,l1,l8,hq⟩:=h
  refine⟨_,(j03 (j0a (j1t (j0f (j2d T) (hr.mono (by decide)) (by rfl) T.m_z70 T.F_z70.kp T.b_z70 .nil j0d (j00 (pv 0) j01)) (j1y (j2r oLeW oLeW j08 (j07 j1w (by rfl) T.n_len PySem.boot_len (j00 (pv 0) j01)) j08))))),?_⟩
  walk_at "v"
  refine⟨p,ss,rfl,hp,hn',hd,by omega,fun H1 e1=>?_⟩
  walk_at "v"
  refine j0t (e1 _ _ hp) ?_
  rw[List.length_map]
  walk_at "v"
  refine iteD (fun _=>?_) (fun q=>(q (by omega)).elim)
  walk_at "v"
  rw[decide_eq_true (show (ss.length:Int)≤8 by omega)]
  exact hq H1 e1
namespace Nk
def j5e (a:Adr):Sp:=fun vs H Q _=>∃ (x dx p:Addr) (row:List Str),vs=[.ref x,.ref p]∧H x=some (.ins a.c_Keeper dx [])∧H p=some (.tup (row.map V.str))∧Names row∧∀ H',KeepAt a H' x row 0→But x H H'→Q .non H'
theorem ok_Keeper_init (T:Txt K mg a):FnOk P w K mg base (CXU P w) 6 a.f_z45 a.d_z45 ["self","pages"] (j5e a):=by
 refine T.F_z45.okU sc_z45 (fun vs H Q E h=>?_) (fun cdv A outer s H vs Q E hr h=>?_)
 ·obtain⟨x,dx,p,row,rfl,hx,hp,hN,hq⟩:=h
  rfl
 ·obtain⟨x,dx,p,row,rfl,hx,hp,hN,hq⟩:=h
  have zc_Keeper:=T.cl_Keeper
  have zn_Keeper_row:=T.na_Keeper_row
  refine⟨_,(j02 (j0u (j0s (ptT (j0f (j1s T) (hr.mono (by decide)) (by rfl) T.m_z5 T.F_z5.kp T.b_z5 .nil j0d (j00 (pv 1) j01)) (fun _=>rfl))) (j03 j11) j0c)
   (j02 (j1l (j2s (C:=a.c_Bound) (j12 (v:=V.ref a.c_Bound) (by rfl) T.m_Bound rfl) T.cm_Bound_init (Nk.ok_Rule_init T) (hr.mono (by decide)) T.b_z67 .nil j0d (j00 (pv 0) (j00 (j18 T.mk_Store (Nk.ok_Store_init T) (hr.mono (by decide)) (by rfl) T.m_Store T.b_z58 .nil j0d (j00 (j07 j1w (by rfl) T.n_len PySem.boot_len (j00 (pv 1) j01)) j01)) (j00 (j0r j3i (by rfl) T.n_tuple PyProof.Rows.boot_tuple (j00 (j07 j37 (by rfl) T.n_sorted PyProof.Rows.boot_sorted (j00 (pv 1) j01)) j01)) j01)))))
   (j03 (j0x (pv 0) (j0r ja4 (by rfl) T.n_list PyProof.Rows.boot_list (j00 (pv 1) j01)) rfl)))),?_⟩
  have g8:=hN.hi
  walk_at "v"
  refine⟨p,row,rfl,hp,hN.nm,hN.nd,hN.lo,hN.hi,fun H1 e1=>?_⟩
  have hx1:=e1 _ _ hx
  have hp1:=e1 _ _ hp
  walk_at "v"
  refine j0t hp1 ?_
  rw[List.length_map]
  walk_at "v"
  intro w dw k1 k2 k3
  have nx:w≠x:=(j05 hx1 k1).symm
  refine⟨w,dw,_,rfl,j0k,fun H2 h2 b2=>⟨rfl,?_⟩⟩
  have x2:Ext H1 H2:=fun b o hb=>b2 b o (j05 hb k1) (by rw[j0o (j05 hb k1),j0o (j05 hb k2)];exact hb)
  have hp2:=x2 _ _ hp1
  walk_at "v"
  refine j3o hp2 (by omega) fun l3 s3 H3 n3 p3 o3 q3 e3=>?_
  walk_at "v"
  refine j17 q3 fun t4 H4 n4 q4 e4=>?_
  have e34:=e3.tr e4
  have hx4:=e34 _ _ (x2 _ _ hx1)
  have hw4:=e34 _ _ h2
  have hp4:=e34 _ _ hp2
  walk_at "v"
  refine⟨x,dx,w,dw,t4,s3,rfl,hx4,by rw[p3.length_eq];exact hw4,q4,hN.perm p3,o3,fun H5 h5 b5=>?_⟩
  have np:p≠x:=j47 hp hx (by intro z;cases z)
  have hp5:=b5 _ _ np hp4
  walk_at "v"
  refine j3j hp5 fun l6 H6 n6 q6 e6=>?_
  walk_at "v"
  refine j1p (e6 _ _ h5) T.cl_Keeper T.na_Keeper_row (j0y rfl) fun H7 h7 b7=>?_
  have nt:t4≠x:=j47 q4 hx4 (by intro z;cases z)
  have nl:l6≠x:=(j05 h5 n6).symm
  exact hq H7 ⟨dx,w,dw,t4,l6,s3,h7,b7 _ _ nx (e6 _ _ (b5 _ _ nx hw4)),b7 _ _ nt (e6 _ _ (b5 _ _ nt q4)),b7 _ _ nl q6,p3,o3⟩ (Ext.toBut (e1.tr (x2.tr e34)) (b5.tr (Ext.toBut e6 b7)))
end Nk
namespace Nw
def sp_Rule_init (a:Adr):Sp:=fun vs H Q _=>∃ (x dx w dw:Addr) (n h t:Int),vs=[.ref x,.ref w,.int h]∧H x=some (.ins a.c_Changer dx [])∧H w=some (.ins a.c_Ways dw [("many",.int n),("toll",.int t)])∧0≤h∧h < n∧∀ H',H' x=some (.ins a.c_Changer dx [("world",.ref w),("standing",.int h),("spent",.int 0)])→But x H H'→Q .non H'
theorem ok_Rule_init (T:Txt K mg a):FnOk P w K mg base (CXU P w) 3 a.f_z67 a.d_z67 ["self","world","start"] (sp_Rule_init a):=by
 refine T.F_z67.okU j8c (fun vs H Q E h=>?_) (fun cdv A outer s H vs Q E hr h=>?_)
 ·obtain⟨x,dx,w,dw,n,h,t,rfl,hx,hw,h0,h1,hq⟩:=h
  rfl
 ·obtain⟨x,dx,w,dw,n,h,t,rfl,hx,hw,h0,h1,hq⟩:=h
  have zc_Both:=T.cl_Both
  have zn_Both_world:=T.na_Both_world
  have zn_Both_standing:=T.na_Both_standing
  have zn_Both_spent:=T.na_Both_spent
  have zc_Buyer:=T.cl_Buyer
  have zn_Buyer_world:=T.na_Buyer_world
  have zn_Buyer_standing:=T.na_Buyer_standing
  have zn_Buyer_spent:=T.na_Buyer_spent
  have zc_Changer:=T.cl_Changer
  have zn_Changer_world:=T.na_Changer_world
  have zn_Changer_standing:=T.na_Changer_standing
  have zn_Changer_spent:=T.na_Changer_spent
  have zc_Filler:=T.cl_Filler
  have zn_Filler_world:=T.na_Filler_world
  have zn_Filler_standing:=T.na_Filler_standing
  have zn_Filler_spent:=T.na_Filler_spent
  have zc_Front:=T.cl_Front
  have zn_Front_world:=T.na_Front_world
  have zn_Front_standing:=T.na_Front_standing
  have zn_Front_spent:=T.na_Front_spent
  have zc_Keeper:=T.cl_Keeper
  have zn_Keeper_world:=T.na_Keeper_world
  have zn_Keeper_standing:=T.na_Keeper_standing
  have zn_Keeper_spent:=T.na_Keeper_spent
  refine⟨_,(j02 (j0u (j0s (ptT (j0e (pv 1) T.cl_Ways T.me_Ways_is_state (Nw.ok_Ways_is_state T) (hr.mono (by decide)) T.b_z23 .nil j0d (j00 (pv 2) j01)) (fun _=>rfl))) (j03 j11) j0c)
   (j02 (j0x (pv 0) (pv 1) rfl)
   (j02 (j0x (pv 0) (pv 2) rfl)
   (j03 (j0x (pv 0) j08 rfl))))),?_⟩
  walk_at "v"
  refine⟨w,dw,n,h,t,rfl,hw,h0,h1,?_⟩
  walk_at "v"
  refine j1p hx T.cl_Changer T.na_Changer_world (j0y rfl) fun H2 h2 b2=>?_
  walk_at "v"
  refine j1p h2 T.cl_Changer T.na_Changer_standing (j0y rfl) fun H3 h3 b3=>?_
  walk_at "v"
  refine j1p h3 T.cl_Changer T.na_Changer_spent (j0y rfl) fun H4 h4 b4=>?_
  exact hq H4 h4 (But.tr (But.tr b2 b3) b4)
end Nw
namespace Nw
def j70 (a:Adr):Sp:=fun vs H Q _=>∃ x dx v u,vs=[.ref x,v,u]∧H x=some (.ins a.c_Ways dx [])∧∀ H',H' x=some (.ins a.c_Ways dx [("many",v),("toll",u)])→But x H H'→Q .non H'
theorem ok_Ways_init (T:Txt K mg a):FnOk P w K mg base (CXU P w) 1 a.f_z69 a.d_z69 ["self","many","toll"] (j70 a):=by
 refine T.F_z69.okU sc_z69 (fun vs H Q E h=>?_) (fun cdv A outer s H vs Q E hr h=>?_)
 ·obtain⟨x,dx,v,u,rfl,hx,hq⟩:=h
  rfl
 ·obtain⟨x,dx,v,u,rfl,hx,hq⟩:=h
  have zc_Line:=T.cl_Line
  have zn_Line_many:=T.na_Line_many
  have zc_Store:=T.cl_Store
  have zn_Store_many:=T.na_Store_many
  have zc_Ways:=T.cl_Ways
  have zn_Ways_many:=T.na_Ways_many
  have zn_Ways_toll:=T.na_Ways_toll
  refine⟨_,(j02 (j0x (pv 0) (pv 1) rfl)
   (j03 (j0x (pv 0) (pv 2) rfl))),?_⟩
  walk_at "v"
  refine j1p hx T.cl_Ways T.na_Ways_many (j0y rfl) fun H1 h1 b1=>?_
  walk_at "v"
  refine j1p h1 T.cl_Ways T.na_Ways_toll (j0y rfl) fun H2 h2 b2=>?_
  exact hq H2 h2 (b1.tr b2)
end Nw
namespace Nw
def j4r (a:Adr):Sp:=fun vs H Q _=>∃ (x dx:Addr) (n h t:Int),vs=[.ref x,.int n,.int t,.int h]∧H x=some (.ins a.c_Changer dx [])∧1≤n∧n≤8∧0≤h∧h < n∧0≤t∧t≤1000000000000000000∧∀ H',WaysAt a H' x (fstW n.toNat t h) h t 0→But x H H'→Q .non H'
theorem ok_Changer_init (T:Txt K mg a):FnOk P w K mg base (CXU P w) 5 a.f_z27 a.d_z27 ["self","many","toll","start"] (j4r a):=by
 refine T.F_z27.okU sc_z27 (fun vs H Q E h=>?_) (fun cdv A outer s H vs Q E hr h=>?_)
 ·obtain⟨x,dx,n,h,t,rfl,hx,n1,n8,h0,h1,t0,t1,hq⟩:=h
  rfl
 ·obtain⟨x,dx,n,h,t,rfl,hx,n1,n8,h0,h1,t0,t1,hq⟩:=h
  have zc_Changer:=T.cl_Changer
  have zn_Changer_reckoned:=T.na_Changer_reckoned
  refine⟨_,(j02 (j0u (PW.pt (j34 (j0s (ptT (j0f (j1e T) (hr.mono (by decide)) (by rfl) T.m_z11 T.F_z11.kp T.b_z11 .nil j0d (j00 (pv 1) (j00 j08 j01))) (fun _=>rfl))) (j1k (j0s (ptT (j0f (j1i T) (hr.mono (by decide)) (by rfl) T.m_z71 T.F_z71.kp T.b_z71 .nil j0d (j00 (pv 2) j01)) (fun _=>rfl)))))) (j03 j11) j0c)
   (j02 (j1l (j2s (C:=a.c_Bound) (j12 (v:=V.ref a.c_Bound) (by rfl) T.m_Bound rfl) T.cm_Bound_init (Nw.ok_Rule_init T) (hr.mono (by decide)) T.b_z67 .nil j0d (j00 (pv 0) (j00 (j18 T.mk_Ways (Nw.ok_Ways_init T) (hr.mono (by decide)) (by rfl) T.m_Ways T.b_z69 .nil j0d (j00 (pv 1) (j00 (pv 2) j01))) (j00 (pv 3) j01)))))
   (j03 (j0x (pv 0) (j1f (["way"]:List Str) (["start","toll"]:List Str) [3,2] rfl ⟨rfl,by decide +kernel,by decide +kernel,by rfl,⟨⟨rfl,by first | exact Or.inl rfl | exact Or.inr rfl,by first | exact Or.inl rfl | exact Or.inr rfl⟩,⟨rfl,by first | exact Or.inl rfl | exact Or.inr rfl,by first | exact Or.inl rfl | exact Or.inr rfl⟩,trivial⟩⟩ (j1m rfl T.n_range (j00 (pv 1) j01)) (fun _ _ _ _=>⟨(j0w (i:=0) (by show ((["way"]:List Str)++(["start","toll"]:List Str)).Nodup;decide +kernel) rfl (by first | exact Or.inl rfl | exact Or.inr rfl)),(show PTs _ [] [] from trivial),(j2o (j0g (oEq hr) (pv 0) (pv 1) (j0m _)) j08 (pv 2))⟩)) rfl)))),?_⟩
  walk_at "v"
  refine⟨.int n,.int,8,rfl,rfl,?_⟩
  rw[show fot 8 (.int n)=true by show (decide (1≤n) && decide (n≤8))=true;rw[decide_eq_true n1,decide_eq_true n8];rfl]
  walk_at "v"
  refine⟨.int t,.int,rfl,rfl,?_⟩
  rw[show amt (.int t)=true by show (decide (0≤t) && decide (t≤1000000000000000000))=true;rw[decide_eq_true t0,decide_eq_true t1];rfl]
  walk_at "v"
  intro w dw k1 k2 k3
  have nx:w≠x:=(j05 hx k1).symm
  have nx2:dw≠x:=(j05 hx k2).symm
  refine⟨w,dw,.int n,.int t,rfl,j0k,fun H1 h1' b1=>⟨rfl,?_⟩⟩
  have x1:Ext H H1:=fun b o hb=>b1 b o (j05 hb k1) (by rw[j0o (j05 hb k1),j0o (j05 hb k2)];exact hb)
  walk_at "v"
  refine⟨x,dx,w,dw,n,h,t,rfl,x1 _ _ hx,h1',h0,h1,fun H2 h2 b2=>?_⟩
  walk_at "v"
  refine⟨_,rfl,by omega,by omega,fun acc hn _ _ _ _=>j7s V.int (fun (i:Nat)=>if (i:Int)=h then (0:Int) else t) (by omega) hn (fun i H3 Y hi e hY=>?_) fun H3 e3 ha=>?_⟩
  ·walk_at "v"
   refine iteD (fun c=>?_) (fun c=>?_)
   ·rw[if_pos c] at hY
    walk_at "v"
    exact hY _ Ext.rfl'
   ·rw[if_neg c] at hY
    walk_at "v"
    exact hY _ Ext.rfl'
  ·have h23:=e3 _ _ h2
   walk_at "v"
   refine j1p h23 T.cl_Changer T.na_Changer_reckoned (j0y rfl) fun H4 h4 b4=>?_
   have nw:acc≠x:=(j05 h2 hn).symm
   refine hq H4 ⟨dx,w,dw,acc,h4,?_,b4 _ _ nw ha⟩ (Ext.toBut x1 (b2.tr (Ext.toBut e3 b4)))
   rw[fst_len,show ((n.toNat:Nat):Int)=n by omega]
   exact b4 _ _ nx (e3 _ _ (b2 _ _ nx h1'))
end Nw
namespace Nh
def sp_Rule_init (a:Adr):Sp:=fun vs H Q _=>∃ x dx wo dw W,vs=[.ref x,.ref wo,.int 0]∧H x=some (.ins a.c_Buyer dx [])∧H wo=some (.ins a.c_Hire dw (hfl W))∧∀ H',H' x=some (.ins a.c_Buyer dx (bfl wo 0 0))→But x H H'→Q .non H'
theorem ok_Rule_init (T:Txt K mg a):FnOk P w K mg base (CXU P w) 3 a.f_z67 a.d_z67 ["self","world","start"] (sp_Rule_init a):=by
 refine T.F_z67.okU j8c (fun vs H Q E h=>?_) (fun cdv A outer s H vs Q E hr h=>?_)
 ·obtain⟨x,dx,wo,dw,W,rfl,hx,hw,hq⟩:=h
  rfl
 ·obtain⟨x,dx,wo,dw,W,rfl,hx,hw,hq⟩:=h
  have zc_Both:=T.cl_Both
  have zn_Both_world:=T.na_Both_world
  have zn_Both_standing:=T.na_Both_standing
  have zn_Both_spent:=T.na_Both_spent
  have zc_Buyer:=T.cl_Buyer
  have zn_Buyer_world:=T.na_Buyer_world
  have zn_Buyer_standing:=T.na_Buyer_standing
  have zn_Buyer_spent:=T.na_Buyer_spent
  have zc_Changer:=T.cl_Changer
  have zn_Changer_world:=T.na_Changer_world
  have zn_Changer_standing:=T.na_Changer_standing
  have zn_Changer_spent:=T.na_Changer_spent
  have zc_Filler:=T.cl_Filler
  have zn_Filler_world:=T.na_Filler_world
  have zn_Filler_standing:=T.na_Filler_standing
  have zn_Filler_spent:=T.na_Filler_spent
  have zc_Front:=T.cl_Front
  have zn_Front_world:=T.na_Front_world
  have zn_Front_standing:=T.na_Front_standing
  have zn_Front_spent:=T.na_Front_spent
  have zc_Keeper:=T.cl_Keeper
  have zn_Keeper_world:=T.na_Keeper_world
  have zn_Keeper_standing:=T.na_Keeper_standing
  have zn_Keeper_spent:=T.na_Keeper_spent
  refine⟨_,(j02 (j0u (j0s (ptT (j0e (pv 1) T.cl_Hire T.me_Hire_is_state (Nh.ok_Hire_is_state T) (hr.mono (by decide)) T.b_z16 .nil j0d (j00 (pv 2) j01)) (fun _=>rfl))) (j03 j11) j0c)
   (j02 (j0x (pv 0) (pv 1) rfl)
   (j02 (j0x (pv 0) (pv 2) rfl)
   (j03 (j0x (pv 0) j08 rfl))))),?_⟩
  walk_at "v"
  refine⟨wo,.int 0,.int,rfl,rfl,?_⟩
  walk_at "v"
  refine j1p hx T.cl_Buyer T.na_Buyer_world (j0y rfl) fun H1 h1 b1=>?_
  walk_at "v"
  refine j1p h1 T.cl_Buyer T.na_Buyer_standing (j0y rfl) fun H2 h2 b2=>?_
  walk_at "v"
  refine j1p h2 T.cl_Buyer T.na_Buyer_spent (j0y rfl) fun H3 h3 b3=>?_
  exact hq H3 h3 (But.tr (But.tr b1 b2) b3)
end Nh
namespace Nh
def j71 (a:Adr):Sp:=fun vs H Q _=>∃ x dx v,vs=[.ref x,v]∧H x=some (.ins a.c_Hire dx [])∧∀ H',H' x=some (.ins a.c_Hire dx [("whole",v)])→But x H H'→Q .non H'
theorem ok_Hire_init (T:Txt K mg a):FnOk P w K mg base (CXU P w) 1 a.f_z65 a.d_z65 ["self","whole"] (j71 a):=by
 refine T.F_z65.okU sc_z65 (fun vs H Q E h=>?_) (fun cdv A outer s H vs Q E hr h=>?_)
 ·obtain⟨x,dx,v,rfl,hx,hq⟩:=h
  rfl
 ·obtain⟨x,dx,v,rfl,hx,hq⟩:=h
  have zc_Hire:=T.cl_Hire
  have zn_Hire_whole:=T.na_Hire_whole
  refine⟨_,(j03 (j0x (pv 0) (pv 1) rfl)),?_⟩
  walk_at "v"
  refine j1p hx T.cl_Hire T.na_Hire_whole (j0y rfl) fun H' h1 h2=>?_
  exact hq H' h1 h2
end Nh
namespace Nh
def j64 (a:Adr):Sp:=fun vs H Q _=>∃ x dx W,vs=[.ref x,.int W]∧H x=some (.ins a.c_Buyer dx [])∧1≤W∧W≤1000000000000000000 ∧
 ∀ wo dw H',H wo=none→wo≠x→H' x=some (.ins a.c_Buyer dx (bfl wo 0 0))→H' wo=some (.ins a.c_Hire dw (hfl W))→But x H H'→Q .non H'
theorem ok_Buyer_init (T:Txt K mg a):FnOk P w K mg base (CXU P w) 5 a.f_z51 a.d_z51 ["self","whole"] (j64 a):=by
 refine T.F_z51.okU sc_z51 (fun vs H Q E h=>?_) (fun cdv A outer s H vs Q E hr h=>?_)
 ·obtain⟨x,dx,W,rfl,hx,h0,h1,hq⟩:=h
  rfl
 ·obtain⟨x,dx,W,rfl,hx,h0,h1,hq⟩:=h
  refine⟨_,(j02 (j0u (PW.pt (j34 (j0s (ptT (j0f (j1i T) (hr.mono (by decide)) (by rfl) T.m_z71 T.F_z71.kp T.b_z71 .nil j0d (j00 (pv 1) j01)) (fun _=>rfl))) (j1k (j0g (oEq hr) (pv 1) j08 (j0m _))))) (j03 j11) j0c)
   (j03 (j1l (j2s (C:=a.c_Bound) (j12 (v:=V.ref a.c_Bound) (by rfl) T.m_Bound rfl) T.cm_Bound_init (Nh.ok_Rule_init T) (hr.mono (by decide)) T.b_z67 .nil j0d (j00 (pv 0) (j00 (j18 T.mk_Hire (Nh.ok_Hire_init T) (hr.mono (by decide)) (by rfl) T.m_Hire T.b_z65 .nil j0d (j00 (pv 1) j01)) (j00 j08 j01))))))),?_⟩
  walk_at "v"
  refine⟨.int W,.int,rfl,rfl,?_⟩
  have e:amt (.int W)=true:=by show (decide (0≤W) && decide _)=true;rw[decide_eq_true (by omega),decide_eq_true (by omega)];rfl
  rw[e]
  walk_at "v"
  refine iteD (fun h=>by omega) (fun _=>?_)
  walk_at "v"
  intro wo dw n1 n2 n3
  refine⟨wo,dw,.int W,rfl,j0k,fun H1 h1' b1=>⟨rfl,?_⟩⟩
  walk_at "v"
  have nx:x≠wo:=j05 hx n1
  have nd:x≠dw:=j05 hx n2
  have x1:H1 x=some (.ins a.c_Buyer dx []):=b1 x _ nx (by rw[j0o nx,j0o nd];exact hx)
  refine⟨x,dx,wo,dw,W,rfl,x1,h1',fun H2 h2 b2=>?_⟩
  exact hq wo dw H2 n1 nx.symm h2 (b2 wo _ nx.symm h1') fun b o hb hbo=>b2 b o hb (b1 b o (j05 hbo n1) (by rw[j0o (j05 hbo n1),j0o (j05 hbo n2)];exact hbo))
end Nh
namespace Ns
def sp_Rule_init (a:Adr):Sp:=fun vs H Q _=>∃ (x dx w dw tp p:Addr) (ss:List Str),vs=[.ref x,.ref w,.ref p]∧H x=some (.ins a.c_Front dx [])∧H w=some (.ins a.c_Shelf dw [("things",.ref tp)])∧H tp=some (.tup (ss.map V.str))∧H p=some (.tup (ss.map V.str))∧Names ss∧∀ H',H' x=some (.ins a.c_Front dx (sfl w p 0))→But x H H'→Q .non H'
theorem ok_Rule_init (T:Txt K mg a):FnOk P w K mg base (CXU P w) 4 a.f_z67 a.d_z67 ["self","world","start"] (sp_Rule_init a):=by
 refine T.F_z67.okU j8c (fun vs H Q E h=>?_) (fun cdv A outer s H vs Q E hr h=>?_)
 ·obtain⟨x,dx,w,dw,tp,p,ss,rfl,hx,hw,ht,hp,hN,hq⟩:=h
  rfl
 ·obtain⟨x,dx,w,dw,tp,p,ss,rfl,hx,hw,ht,hp,hN,hq⟩:=h
  have zc_Both:=T.cl_Both
  have zn_Both_world:=T.na_Both_world
  have zn_Both_standing:=T.na_Both_standing
  have zn_Both_spent:=T.na_Both_spent
  have zc_Buyer:=T.cl_Buyer
  have zn_Buyer_world:=T.na_Buyer_world
  have zn_Buyer_standing:=T.na_Buyer_standing
  have zn_Buyer_spent:=T.na_Buyer_spent
  have zc_Changer:=T.cl_Changer
  have zn_Changer_world:=T.na_Changer_world
  have zn_Changer_standing:=T.na_Changer_standing
  have zn_Changer_spent:=T.na_Changer_spent
  have zc_Filler:=T.cl_Filler
  have zn_Filler_world:=T.na_Filler_world
  have zn_Filler_standing:=T.na_Filler_standing
  have zn_Filler_spent:=T.na_Filler_spent
  have zc_Front:=T.cl_Front
  have zn_Front_world:=T.na_Front_world
  have zn_Front_standing:=T.na_Front_standing
  have zn_Front_spent:=T.na_Front_spent
  have zc_Keeper:=T.cl_Keeper
  have zn_Keeper_world:=T.na_Keeper_world
  have zn_Keeper_standing:=T.na_Keeper_standing
  have zn_Keeper_spent:=T.na_Keeper_spent
  refine⟨_,(j02 (j0u (j0s (ptT (j0e (pv 1) T.cl_Shelf T.me_Shelf_is_state (Ns.ok_Shelf_is_state T) (hr.mono (by decide)) T.b_z9 .nil j0d (j00 (pv 2) j01)) (fun _=>rfl))) (j03 j11) j0c)
   (j02 (j0x (pv 0) (pv 1) rfl)
   (j02 (j0x (pv 0) (pv 2) rfl)
   (j03 (j0x (pv 0) j08 rfl))))),?_⟩
  walk_at "v"
  refine⟨w,dw,tp,p,ss,ss,rfl,hw,ht,hp,hN,.refl _,fun H1 e1=>?_⟩
  walk_at "v"
  refine j1p (e1 _ _ hx) T.cl_Front T.na_Front_world (j0y rfl) fun H2 h2 b2=>?_
  walk_at "v"
  refine j1p h2 T.cl_Front T.na_Front_standing (j0y rfl) fun H3 h3 b3=>?_
  walk_at "v"
  refine j1p h3 T.cl_Front T.na_Front_spent (j0y rfl) fun H4 h4 b4=>?_
  exact hq H4 h4 (Ext.toBut e1 (But.tr (But.tr b2 b3) b4))
end Ns
namespace Ns
def j65 (a:Adr):Sp:=fun vs H Q _=>∃ x dx v,vs=[.ref x,v]∧H x=some (.ins a.c_Shelf dx [])∧∀ H',H' x=some (.ins a.c_Shelf dx [("things",v)])→But x H H'→Q .non H'
theorem ok_Shelf_init (T:Txt K mg a):FnOk P w K mg base (CXU P w) 1 a.f_z57 a.d_z57 ["self","things"] (j65 a):=by
 refine T.F_z57.okU sc_z57 (fun vs H Q E h=>?_) (fun cdv A outer s H vs Q E hr h=>?_)
 ·obtain⟨x,dx,v,rfl,hx,hq⟩:=h
  rfl
 ·obtain⟨x,dx,v,rfl,hx,hq⟩:=h
  have zc_Shelf:=T.cl_Shelf
  have zn_Shelf_things:=T.na_Shelf_things
  refine⟨_,(j03 (j0x (pv 0) (pv 1) rfl)),?_⟩
  walk_at "v"
  refine j1p hx T.cl_Shelf T.na_Shelf_things (j0y rfl) fun H' h1 h2=>?_
  exact hq H' h1 h2
end Ns
namespace Ns
def j66 (a:Adr):Sp:=fun vs H Q _=>∃ (x dx p:Addr) (ss:List Str),vs=[.ref x,.ref p]∧H x=some (.ins a.c_Front dx [])∧H p=some (.tup (ss.map V.str))∧Names ss∧∀ H',ShelfAt a H' x ss ss 0→But x H H'→Q .non H'
theorem ok_Front_init (T:Txt K mg a):FnOk P w K mg base (CXU P w) 6 a.f_z52 a.d_z52 ["self","start"] (j66 a):=by
 refine T.F_z52.okU sc_z52 (fun vs H Q E h=>?_) (fun cdv A outer s H vs Q E hr h=>?_)
 ·obtain⟨x,dx,p,ss,rfl,hx,hp,hN,hq⟩:=h
  rfl
 ·obtain⟨x,dx,p,ss,rfl,hx,hp,hN,hq⟩:=h
  refine⟨_,(j02 (j0u (j0s (ptT (j0f (j1s T) (hr.mono (by decide)) (by rfl) T.m_z5 T.F_z5.kp T.b_z5 .nil j0d (j00 (pv 1) j01)) (fun _=>rfl))) (j03 j11) j0c)
   (j03 (j1l (j2s (C:=a.c_Bound) (j12 (v:=V.ref a.c_Bound) (by rfl) T.m_Bound rfl) T.cm_Bound_init (Ns.ok_Rule_init T) (hr.mono (by decide)) T.b_z67 .nil j0d (j00 (pv 0) (j00 (j18 T.mk_Shelf (Ns.ok_Shelf_init T) (hr.mono (by decide)) (by rfl) T.m_Shelf T.b_z57 .nil j0d (j00 (pv 1) j01)) (j00 (pv 1) j01))))))),?_⟩
  walk_at "v"
  refine⟨p,ss,rfl,hp,hN.nm,hN.nd,hN.lo,hN.hi,fun H1 e1=>?_⟩
  have hx1:=e1 _ _ hx
  walk_at "v"
  intro w dw k1 k2 k3
  have nx:w≠x:=(j05 hx1 k1).symm
  refine⟨w,dw,.ref p,rfl,j0k,fun H2 h2 b2=>⟨rfl,?_⟩⟩
  have x2:Ext H1 H2:=fun b o hb=>b2 b o (j05 hb k1) (by rw[j0o (j05 hb k1),j0o (j05 hb k2)];exact hb)
  walk_at "v"
  have hp2:=x2 _ _ (e1 _ _ hp)
  refine⟨x,dx,w,dw,p,p,ss,rfl,x2 _ _ hx1,h2,hp2,hp2,hN,fun H3 h3 b3=>?_⟩
  have np:p≠x:=j47 hp hx (by intro z;cases z)
  exact hq H3 ⟨dx,w,dw,p,p,h3,b3 _ _ nx h2,b3 _ _ np hp2,b3 _ _ np hp2⟩ (Ext.toBut (e1.tr x2) b3)
end Ns
namespace Nl
def sp_Rule_init (a:Adr):Sp:=fun vs H Q _=>∃ (x dx w dw p:Addr) (ns:List Int),vs=[.ref x,.ref w,.ref p]∧H x=some (.ins a.c_Both dx [])∧H w=some (.ins a.c_Line dw [("many",.int ns.length)])∧H p=some (.tup (ns.map V.int))∧Good ns∧∀ H',H' x=some (.ins a.c_Both dx (lfl w p 0))→But x H H'→Q .non H'
theorem ok_Rule_init (T:Txt K mg a):FnOk P w K mg base (CXU P w) 4 a.f_z67 a.d_z67 ["self","world","start"] (sp_Rule_init a):=by
 refine T.F_z67.okU j8c (fun vs H Q E h=>?_) (fun cdv A outer s H vs Q E hr h=>?_)
 ·obtain⟨x,dx,w,dw,p,ns,rfl,hx,hw,hp,hg,hq⟩:=h
  rfl
 ·obtain⟨x,dx,w,dw,p,ns,rfl,hx,hw,hp,hg,hq⟩:=h
  have zc_Both:=T.cl_Both
  have zn_Both_world:=T.na_Both_world
  have zn_Both_standing:=T.na_Both_standing
  have zn_Both_spent:=T.na_Both_spent
  have zc_Buyer:=T.cl_Buyer
  have zn_Buyer_world:=T.na_Buyer_world
  have zn_Buyer_standing:=T.na_Buyer_standing
  have zn_Buyer_spent:=T.na_Buyer_spent
  have zc_Changer:=T.cl_Changer
  have zn_Changer_world:=T.na_Changer_world
  have zn_Changer_standing:=T.na_Changer_standing
  have zn_Changer_spent:=T.na_Changer_spent
  have zc_Filler:=T.cl_Filler
  have zn_Filler_world:=T.na_Filler_world
  have zn_Filler_standing:=T.na_Filler_standing
  have zn_Filler_spent:=T.na_Filler_spent
  have zc_Front:=T.cl_Front
  have zn_Front_world:=T.na_Front_world
  have zn_Front_standing:=T.na_Front_standing
  have zn_Front_spent:=T.na_Front_spent
  have zc_Keeper:=T.cl_Keeper
  have zn_Keeper_world:=T.na_Keeper_world
  have zn_Keeper_standing:=T.na_Keeper_standing
  have zn_Keeper_spent:=T.na_Keeper_spent
  refine⟨_,(j02 (j0u (j0s (ptT (j0e (pv 1) T.cl_Line T.me_Line_is_state (Nl.ok_Line_is_state T) (hr.mono (by decide)) T.b_z19 .nil j0d (j00 (pv 2) j01)) (fun _=>rfl))) (j03 j11) j0c)
   (j02 (j0x (pv 0) (pv 1) rfl)
   (j02 (j0x (pv 0) (pv 2) rfl)
   (j03 (j0x (pv 0) j08 rfl))))),?_⟩
  walk_at "v"
  refine⟨w,dw,p,ns,rfl,hw,hp,hg,fun H1 e1=>?_⟩
  walk_at "v"
  refine j1p (e1 _ _ hx) T.cl_Both T.na_Both_world (j0y rfl) fun H2 h2 b2=>?_
  walk_at "v"
  refine j1p h2 T.cl_Both T.na_Both_standing (j0y rfl) fun H3 h3 b3=>?_
  walk_at "v"
  refine j1p h3 T.cl_Both T.na_Both_spent (j0y rfl) fun H4 h4 b4=>?_
  exact hq H4 h4 (Ext.toBut e1 (But.tr (But.tr b2 b3) b4))
end Nl
namespace Nl
def j72 (a:Adr):Sp:=fun vs H Q _=>∃ x dx v,vs=[.ref x,v]∧H x=some (.ins a.c_Line dx [])∧∀ H',H' x=some (.ins a.c_Line dx [("many",v)])→But x H H'→Q .non H'
theorem ok_Line_init (T:Txt K mg a):FnOk P w K mg base (CXU P w) 1 a.f_z66 a.d_z66 ["self","many"] (j72 a):=by
 refine T.F_z66.okU sc_z66 (fun vs H Q E h=>?_) (fun cdv A outer s H vs Q E hr h=>?_)
 ·obtain⟨x,dx,v,rfl,hx,hq⟩:=h
  rfl
 ·obtain⟨x,dx,v,rfl,hx,hq⟩:=h
  have zc_Line:=T.cl_Line
  have zn_Line_many:=T.na_Line_many
  have zc_Store:=T.cl_Store
  have zn_Store_many:=T.na_Store_many
  have zc_Ways:=T.cl_Ways
  have zn_Ways_many:=T.na_Ways_many
  refine⟨_,(j03 (j0x (pv 0) (pv 1) rfl)),?_⟩
  walk_at "v"
  refine j1p hx T.cl_Line T.na_Line_many (j0y rfl) fun H' h1 h2=>?_
  exact hq H' h1 h2
end Nl
namespace Nl
def ja1 (a:Adr):Sp:=fun vs H Q _=>∃ (p:Addr) (ns:List Int),vs=[.ref p]∧H p=some (.tup (ns.map V.int))∧1≤ns.length∧ns.length≤6∧∀ w dw H',H w=none→H' w=some (.ins a.c_Line dw [("many",.int ns.length)])→Ext H H'→Q (.ref w) H'
theorem ok_line_of (T:Txt K mg a):FnOk P w K mg base (CXU P w) 3 a.f_z87 a.d_z87 ["start"] (ja1 a):=by
 refine T.F_z87.okU sc_z87 (fun vs H Q E h=>?_) (fun cdv A outer s H vs Q E hr h=>?_)
 ·obtain⟨p,ns,rfl,hp,h1,h6,hq⟩:=h
  rfl
 ·obtain⟨p,ns,rfl,hp,h1,h6,hq⟩:=h
  refine⟨_,(j02 (j0u (PW.pt (j34 (j0s (ptT (j07 j28 (by rfl) T.n_isinstance PyProof.Rows.boot_isinstance (j00 (pv 0) (j00 (j1b (v:=V.ty "tuple") (by rfl) T.n_tuple PyProof.Rows.boot_tuple rfl) j01))) (fun _=>rfl))) (j1k (j0s (j8v oLeW oLeW j08 (j07 j1w (by rfl) T.n_len PySem.boot_len (j00 (pv 0) j01)) j08))))) (j03 j11) j0c)
   (j03 (j0a (j18 T.mk_Line (Nl.ok_Line_init T) (hr.mono (by decide)) (by rfl) T.m_Line T.b_z66 .nil j0d (j00 (j07 j1w (by rfl) T.n_len PySem.boot_len (j00 (pv 0) j01)) j01))))),?_⟩
  walk_at "v"
  refine j86 (HasK.t hp) ?_
  walk_at "v"
  refine j0t hp ?_
  rw[List.length_map]
  walk_at "v"
  rw[decide_eq_true (show (1:Int)≤ns.length by omega)]
  walk_at "v"
  rw[decide_eq_true (show (ns.length:Int)≤6 by omega)]
  walk_at "v"
  refine j0t hp ?_
  rw[List.length_map]
  walk_at "v"
  intro w dw n1 n2 n3
  refine⟨w,dw,_,rfl,j0k,fun H1 h1' b1=>⟨rfl,hq w dw H1 n1 h1' fun b o hb=>?_⟩⟩
  have nb:b≠w:=j05 hb n1
  have nd:b≠dw:=j05 hb n2
  exact b1 b o nb (by rw[j0o nb,j0o nd];exact hb)
end Nl
namespace Nl
def j73 (a:Adr):Sp:=fun vs H Q _=>∃ (x dx p:Addr) (ns:List Int),vs=[.ref x,.ref p]∧H x=some (.ins a.c_Both dx [])∧H p=some (.tup (ns.map V.int))∧Good ns∧∀ H',LineAt a a.c_Both H' x ns 0→But x H H'→Q .non H'
theorem ok_Both_init (T:Txt K mg a):FnOk P w K mg base (CXU P w) 6 a.f_z64 a.d_z64 ["self","start"] (j73 a):=by
 refine T.F_z64.okU sc_z64 (fun vs H Q E h=>?_) (fun cdv A outer s H vs Q E hr h=>?_)
 ·obtain⟨x,dx,p,ns,rfl,hx,hp,hg,hq⟩:=h
  rfl
 ·obtain⟨x,dx,p,ns,rfl,hx,hp,hg,hq⟩:=h
  refine⟨_,(j03 (j1l (j2s (C:=a.c_Bound) (j12 (v:=V.ref a.c_Bound) (by rfl) T.m_Bound rfl) T.cm_Bound_init (Nl.ok_Rule_init T) (hr.mono (by decide)) T.b_z67 .nil j0d (j00 (pv 0) (j00 (j0f (Nl.ok_line_of T) (hr.mono (by decide)) (by rfl) T.m_z87 T.F_z87.kp T.b_z87 .nil j0d (j00 (pv 1) j01)) (j00 (pv 1) j01)))))),?_⟩
  have g1:=hg.lo
  have g6:=hg.hi
  walk_at "v"
  refine⟨p,ns,rfl,hp,g1,g6,fun w dw H1 nw hw e1=>?_⟩
  walk_at "v"
  refine⟨x,dx,w,dw,p,ns,rfl,e1 _ _ hx,hw,e1 _ _ hp,hg,fun H2 h2 b2=>?_⟩
  have nx:w≠x:=(j05 hx nw).symm
  have np:p≠x:=j47 hp hx (by intro z;cases z)
  exact hq H2 ⟨dx,w,dw,p,h2,b2 _ _ nx hw,b2 _ _ np (e1 _ _ hp)⟩ (Ext.toBut e1 b2)
end Nl
def j5f (a:Adr):Sp:=fun vs H Q _=>∃ (g:G83) (wd:Str) (p:Addr),vs=[.str wd,.ref p]∧GAt H g wd p∧∀ r H',H r=none→g.rs.at_ a H' r→Ext H H'→Q (.ref r) H'
theorem j5g (T:Txt K mg a):FnOk P w K mg base (CXU P w) 8 a.f_z48 a.d_z48 ["_law_word","_law_start_here"] (j5f a):=by
 refine T.F_z48.okU sc_z48 (fun vs H Q E h=>?_) (fun cdv A outer s H vs Q E hr h=>?_)
 ·obtain⟨g,wd,p,rfl,⟨hwd,hp,hok⟩,hq⟩:=h
  rfl
 ·obtain⟨g,wd,p,rfl,⟨hwd,hp,hok⟩,hq⟩:=h
  refine⟨_,(j02 (j0u (j0g (oEq hr) (pv 0) j0q (j0m _)) (j03 (j0a (j18 T.mk_Both (Nl.ok_Both_init T) (hr.mono (by decide)) (by rfl) T.m_Both T.b_z64 .nil j0d (j00 (pv 1) j01)))) j0c)
   (j02 (j0u (j0g (oEq hr) (pv 0) j0q (j0m _)) (j03 (j0a (j18 T.mk_Front (Ns.ok_Front_init T) (hr.mono (by decide)) (by rfl) T.m_Front T.b_z52 .nil j0d (j00 (pv 1) j01)))) j0c)
   (j02 (j0u (j0g (oEq hr) (pv 0) j0q (j0m _)) (j03 (j0a (j18 T.mk_Buyer (Nh.ok_Buyer_init T) (hr.mono (by decide)) (by rfl) T.m_Buyer T.b_z51 .nil j0d (j00 (j14 oIx (pv 1) j08 (fun _ _=>rfl)) j01)))) j0c)
   (j02 (j0u (j0g (oEq hr) (pv 0) j0q (j0m _)) (j03 (j0a (j18 T.mk_Changer (Nw.ok_Changer_init T) (hr.mono (by decide)) (by rfl) T.m_Changer T.b_z27 .nil j0d (j00 (j14 oIx (pv 1) j08 (fun _ _=>rfl)) (j00 (j14 oIx (pv 1) j08 (fun _ _=>rfl)) (j00 (j14 oIx (pv 1) j08 (fun _ _=>rfl)) j01)))))) j0c)
   (j02 (j0u (j0g (oEq hr) (pv 0) j0q (j0m _)) (j03 (j0a (j18 T.mk_Keeper (Nk.ok_Keeper_init T) (hr.mono (by decide)) (by rfl) T.m_Keeper T.b_z45 .nil j0d (j00 (pv 1) j01)))) j0c)
   (j03 (j0a (j18 T.mk_Filler (Nb.ok_Filler_init T) (hr.mono (by decide)) (by rfl) T.m_Filler T.b_z44 .nil j0d (j00 (j14 oIx (pv 1) j08 (fun _ _=>rfl)) j01))))))))),?_⟩
  cases g with
  | line ns =>
   have hwd:wd=Str.ofString "line":=hwd
   walk_at "v"
   refine j09 ?_
   rw[show decide (wd=Str.ofString "line")=true by rw[hwd];decide]
   walk_at "v"
   intro r dr k1 k2 k3
   have y1:Ext H (upd (upd H dr (.own r)) r (.ins a.c_Both dr [])):=fun b o hb=>by rw[j0o (j05 hb k1),j0o (j05 hb k2)];exact hb
   refine⟨r,dr,p,ns,rfl,j0k,y1 _ _ hp,hok,fun H2 B2 b2=>⟨rfl,?_⟩⟩
   exact hq r H2 k1 B2 (fun b o h=>b2 b o (j05 h k1) (y1 _ _ h))
  | shelf ss =>
   have hwd:wd=Str.ofString "shelf":=hwd
   walk_at "v"
   refine j09 ?_
   rw[show decide (wd=Str.ofString "line")=false by rw[hwd];decide]
   walk_at "v"
   refine j09 ?_
   rw[show decide (wd=Str.ofString "shelf")=true by rw[hwd];decide]
   walk_at "v"
   intro r dr k1 k2 k3
   have y1:Ext H (upd (upd H dr (.own r)) r (.ins a.c_Front dr [])):=fun b o hb=>by rw[j0o (j05 hb k1),j0o (j05 hb k2)];exact hb
   refine⟨r,dr,p,ss,rfl,j0k,y1 _ _ hp,hok,fun H2 B2 b2=>⟨rfl,?_⟩⟩
   exact hq r H2 k1 B2 (fun b o h=>b2 b o (j05 h k1) (y1 _ _ h))
  | hire W =>
   obtain⟨w1,w2⟩:=hok
   have hwd:wd=Str.ofString "hire":=hwd
   walk_at "v"
   refine j09 ?_
   rw[show decide (wd=Str.ofString "line")=false by rw[hwd];decide]
   walk_at "v"
   refine j09 ?_
   rw[show decide (wd=Str.ofString "shelf")=false by rw[hwd];decide]
   walk_at "v"
   refine j09 ?_
   rw[show decide (wd=Str.ofString "hire")=true by rw[hwd];decide]
   walk_at "v"
   refine j1d hp rfl ?_
   walk_at "v"
   intro r dr k1 k2 k3
   have y1:Ext H (upd (upd H dr (.own r)) r (.ins a.c_Buyer dr [])):=fun b o hb=>by rw[j0o (j05 hb k1),j0o (j05 hb k2)];exact hb
   refine⟨r,dr,W,rfl,j0k,w1,w2,fun wo dw H2 nwo hne h1 h2 b2=>⟨rfl,?_⟩⟩
   exact hq r H2 k1 ⟨dr,wo,dw,h1,h2⟩ (fun b o h=>b2 b o (j05 h k1) (y1 _ _ h))
  | ways n t h =>
   obtain⟨n1,n8,h0,h1,t0,t1⟩:=hok
   have hwd:wd=Str.ofString "ways":=hwd
   walk_at "v"
   refine j09 ?_
   rw[show decide (wd=Str.ofString "line")=false by rw[hwd];decide]
   walk_at "v"
   refine j09 ?_
   rw[show decide (wd=Str.ofString "shelf")=false by rw[hwd];decide]
   walk_at "v"
   refine j09 ?_
   rw[show decide (wd=Str.ofString "hire")=false by rw[hwd];decide]
   walk_at "v"
   refine j09 ?_
   rw[show decide (wd=Str.ofString "ways")=true by rw[hwd];decide]
   walk_at "v"
   refine j1d hp rfl ?_
   walk_at "v"
   refine j1d hp rfl ?_
   walk_at "v"
   refine j1d hp rfl ?_
   walk_at "v"
   intro r dr k1 k2 k3
   have y1:Ext H (upd (upd H dr (.own r)) r (.ins a.c_Changer dr [])):=fun b o hb=>by rw[j0o (j05 hb k1),j0o (j05 hb k2)];exact hb
   refine⟨r,dr,(n:Nat),h,t,rfl,j0k,by omega,by omega,h0,h1,t0,t1,fun H2 B2 b2=>⟨rfl,?_⟩⟩
   exact hq r H2 k1 B2 (fun b o h=>b2 b o (j05 h k1) (y1 _ _ h))
  | store ss =>
   have hwd:wd=Str.ofString "store":=hwd
   walk_at "v"
   refine j09 ?_
   rw[show decide (wd=Str.ofString "line")=false by rw[hwd];decide]
   walk_at "v"
   refine j09 ?_
   rw[show decide (wd=Str.ofString "shelf")=false by rw[hwd];decide]
   walk_at "v"
   refine j09 ?_
   rw[show decide (wd=Str.ofString "hire")=false by rw[hwd];decide]
   walk_at "v"
   refine j09 ?_
   rw[show decide (wd=Str.ofString "ways")=false by rw[hwd];decide]
   walk_at "v"
   refine j09 ?_
   rw[show decide (wd=Str.ofString "store")=true by rw[hwd];decide]
   walk_at "v"
   intro r dr k1 k2 k3
   have y1:Ext H (upd (upd H dr (.own r)) r (.ins a.c_Keeper dr [])):=fun b o hb=>by rw[j0o (j05 hb k1),j0o (j05 hb k2)];exact hb
   refine⟨r,dr,p,ss,rfl,j0k,y1 _ _ hp,hok,fun H2 B2 b2=>⟨rfl,?_⟩⟩
   exact hq r H2 k1 B2 (fun b o h=>b2 b o (j05 h k1) (y1 _ _ h))
  | bags R =>
   obtain⟨r1,r2⟩:=hok
   have hwd:wd=Str.ofString "bags":=hwd
   walk_at "v"
   refine j09 ?_
   rw[show decide (wd=Str.ofString "line")=false by rw[hwd];decide]
   walk_at "v"
   refine j09 ?_
   rw[show decide (wd=Str.ofString "shelf")=false by rw[hwd];decide]
   walk_at "v"
   refine j09 ?_
   rw[show decide (wd=Str.ofString "hire")=false by rw[hwd];decide]
   walk_at "v"
   refine j09 ?_
   rw[show decide (wd=Str.ofString "ways")=false by rw[hwd];decide]
   walk_at "v"
   refine j09 ?_
   rw[show decide (wd=Str.ofString "store")=false by rw[hwd];decide]
   walk_at "v"
   refine j1d hp rfl ?_
   walk_at "v"
   intro r dr k1 k2 k3
   have y1:Ext H (upd (upd H dr (.own r)) r (.ins a.c_Filler dr [])):=fun b o hb=>by rw[j0o (j05 hb k1),j0o (j05 hb k2)];exact hb
   refine⟨r,dr,R,rfl,j0k,r1,r2,fun H2 B2 b2=>⟨rfl,?_⟩⟩
   exact hq r H2 k1 ⟨[],B2,.refl _,.nil⟩ (fun b o h=>b2 b o (j05 h k1) (y1 _ _ h))
def ja2 (a:Adr):Sp:=fun vs H Q _=>∃ (g:G83) (wd:Str) (p:Addr),vs=[.str wd,.ref p]∧GAt H g wd p∧∀ r H',H r=none→g.rs.at_ a H' r→Ext H H'→Q (.ref r) H'
theorem j44 (T:Txt K mg a):FnOk P w K mg base (CXU P w) 8 a.f_z88 a.d_z88 ["word","start"] (ja2 a):=by
 refine T.F_z88.okU sc_z88 (fun vs H Q E h=>?_) (fun cdv A outer s H vs Q E hr h=>?_)
 ·obtain⟨g,wd,p,rfl,⟨hwd,hp,hok⟩,hq⟩:=h
  rfl
 ·obtain⟨g,wd,p,rfl,⟨hwd,hp,hok⟩,hq⟩:=h
  refine⟨_,(j02 (j0u (j0g (oEq hr) (pv 0) j0q (j0m _)) (j03 (j0a (j18 T.mk_Both (Nl.ok_Both_init T) (hr.mono (by decide)) (by rfl) T.m_Both T.b_z64 .nil j0d (j00 (pv 1) j01)))) j0c)
   (j02 (j0u (j0g (oEq hr) (pv 0) j0q (j0m _)) (j03 (j0a (j18 T.mk_Front (Ns.ok_Front_init T) (hr.mono (by decide)) (by rfl) T.m_Front T.b_z52 .nil j0d (j00 (pv 1) j01)))) j0c)
   (j02 (j0u (j0g (oEq hr) (pv 0) j0q (j0m _)) (j03 (j0a (j18 T.mk_Buyer (Nh.ok_Buyer_init T) (hr.mono (by decide)) (by rfl) T.m_Buyer T.b_z51 .nil j0d (j00 (j14 oIx (pv 1) j08 (fun _ _=>rfl)) j01)))) j0c)
   (j02 (j0u (j0g (oEq hr) (pv 0) j0q (j0m _)) (j03 (j0a (j18 T.mk_Changer (Nw.ok_Changer_init T) (hr.mono (by decide)) (by rfl) T.m_Changer T.b_z27 .nil j0d (j00 (j14 oIx (pv 1) j08 (fun _ _=>rfl)) (j00 (j14 oIx (pv 1) j08 (fun _ _=>rfl)) (j00 (j14 oIx (pv 1) j08 (fun _ _=>rfl)) j01)))))) j0c)
   (j02 (j0u (j0g (oEq hr) (pv 0) j0q (j0m _)) (j03 (j0a (j18 T.mk_Keeper (Nk.ok_Keeper_init T) (hr.mono (by decide)) (by rfl) T.m_Keeper T.b_z45 .nil j0d (j00 (pv 1) j01)))) j0c)
   (j03 (j0a (j18 T.mk_Filler (Nb.ok_Filler_init T) (hr.mono (by decide)) (by rfl) T.m_Filler T.b_z44 .nil j0d (j00 (j14 oIx (pv 1) j08 (fun _ _=>rfl)) j01))))))))),?_⟩
  cases g with
  | line ns =>
   have hwd:wd=Str.ofString "line":=hwd
   walk_at "v"
   refine j09 ?_
   rw[show decide (wd=Str.ofString "line")=true by rw[hwd];decide]
   walk_at "v"
   intro r dr k1 k2 k3
   have y1:Ext H (upd (upd H dr (.own r)) r (.ins a.c_Both dr [])):=fun b o hb=>by rw[j0o (j05 hb k1),j0o (j05 hb k2)];exact hb
   refine⟨r,dr,p,ns,rfl,j0k,y1 _ _ hp,hok,fun H2 B2 b2=>⟨rfl,?_⟩⟩
   exact hq r H2 k1 B2 (fun b o h=>b2 b o (j05 h k1) (y1 _ _ h))
  | shelf ss =>
   have hwd:wd=Str.ofString "shelf":=hwd
   walk_at "v"
   refine j09 ?_
   rw[show decide (wd=Str.ofString "line")=false by rw[hwd];decide]
   walk_at "v"
   refine j09 ?_
   rw[show decide (wd=Str.ofString "shelf")=true by rw[hwd];decide]
   walk_at "v"
   intro r dr k1 k2 k3
   have y1:Ext H (upd (upd H dr (.own r)) r (.ins a.c_Front dr [])):=fun b o hb=>by rw[j0o (j05 hb k1),j0o (j05 hb k2)];exact hb
   refine⟨r,dr,p,ss,rfl,j0k,y1 _ _ hp,hok,fun H2 B2 b2=>⟨rfl,?_⟩⟩
   exact hq r H2 k1 B2 (fun b o h=>b2 b o (j05 h k1) (y1 _ _ h))
  | hire W =>
   obtain⟨w1,w2⟩:=hok
   have hwd:wd=Str.ofString "hire":=hwd
   walk_at "v"
   refine j09 ?_
   rw[show decide (wd=Str.ofString "line")=false by rw[hwd];decide]
   walk_at "v"
   refine j09 ?_
   rw[show decide (wd=Str.ofString "shelf")=false by rw[hwd];decide]
   walk_at "v"
   refine j09 ?_
   rw[show decide (wd=Str.ofString "hire")=true by rw[hwd];decide]
   walk_at "v"
   refine j1d hp rfl ?_
   walk_at "v"
   intro r dr k1 k2 k3
   have y1:Ext H (upd (upd H dr (.own r)) r (.ins a.c_Buyer dr [])):=fun b o hb=>by rw[j0o (j05 hb k1),j0o (j05 hb k2)];exact hb
   refine⟨r,dr,W,rfl,j0k,w1,w2,fun wo dw H2 nwo hne h1 h2 b2=>⟨rfl,?_⟩⟩
   exact hq r H2 k1 ⟨dr,wo,dw,h1,h2⟩ (fun b o h=>b2 b o (j05 h k1) (y1 _ _ h))
  | ways n t h =>
   obtain⟨n1,n8,h0,h1,t0,t1⟩:=hok
   have hwd:wd=Str.ofString "ways":=hwd
   walk_at "v"
   refine j09 ?_
   rw[show decide (wd=Str.ofString "line")=false by rw[hwd];decide]
   walk_at "v"
   refine j09 ?_
   rw[show decide (wd=Str.ofString "shelf")=false by rw[hwd];decide]
   walk_at "v"
   refine j09 ?_
   rw[show decide (wd=Str.ofString "hire")=false by rw[hwd];decide]
   walk_at "v"
   refine j09 ?_
   rw[show decide (wd=Str.ofString "ways")=true by rw[hwd];decide]
   walk_at "v"
   refine j1d hp rfl ?_
   walk_at "v"
   refine j1d hp rfl ?_
   walk_at "v"
   refine j1d hp rfl ?_
   walk_at "v"
   intro r dr k1 k2 k3
   have y1:Ext H (upd (upd H dr (.own r)) r (.ins a.c_Changer dr [])):=fun b o hb=>by rw[j0o (j05 hb k1),j0o (j05 hb k2)];exact hb
   refine⟨r,dr,(n:Nat),h,t,rfl,j0k,by omega,by omega,h0,h1,t0,t1,fun H2 B2 b2=>⟨rfl,?_⟩⟩
   exact hq r H2 k1 B2 (fun b o h=>b2 b o (j05 h k1) (y1 _ _ h))
  | store ss =>
   have hwd:wd=Str.ofString "store":=hwd
   walk_at "v"
   refine j09 ?_
   rw[show decide (wd=Str.ofString "line")=false by rw[hwd];decide]
   walk_at "v"
   refine j09 ?_
   rw[show decide (wd=Str.ofString "shelf")=false by rw[hwd];decide]
   walk_at "v"
   refine j09 ?_
   rw[show decide (wd=Str.ofString "hire")=false by rw[hwd];decide]
   walk_at "v"
   refine j09 ?_
   rw[show decide (wd=Str.ofString "ways")=false by rw[hwd];decide]
   walk_at "v"
   refine j09 ?_
   rw[show decide (wd=Str.ofString "store")=true by rw[hwd];decide]
   walk_at "v"
   intro r dr k1 k2 k3
   have y1:Ext H (upd (upd H dr (.own r)) r (.ins a.c_Keeper dr [])):=fun b o hb=>by rw[j0o (j05 hb k1),j0o (j05 hb k2)];exact hb
   refine⟨r,dr,p,ss,rfl,j0k,y1 _ _ hp,hok,fun H2 B2 b2=>⟨rfl,?_⟩⟩
   exact hq r H2 k1 B2 (fun b o h=>b2 b o (j05 h k1) (y1 _ _ h))
  | bags R =>
   obtain⟨r1,r2⟩:=hok
   have hwd:wd=Str.ofString "bags":=hwd
   walk_at "v"
   refine j09 ?_
   rw[show decide (wd=Str.ofString "line")=false by rw[hwd];decide]
   walk_at "v"
   refine j09 ?_
   rw[show decide (wd=Str.ofString "shelf")=false by rw[hwd];decide]
   walk_at "v"
   refine j09 ?_
   rw[show decide (wd=Str.ofString "hire")=false by rw[hwd];decide]
   walk_at "v"
   refine j09 ?_
   rw[show decide (wd=Str.ofString "ways")=false by rw[hwd];decide]
   walk_at "v"
   refine j09 ?_
   rw[show decide (wd=Str.ofString "store")=false by rw[hwd];decide]
   walk_at "v"
   refine j1d hp rfl ?_
   walk_at "v"
   intro r dr k1 k2 k3
   have y1:Ext H (upd (upd H dr (.own r)) r (.ins a.c_Filler dr [])):=fun b o hb=>by rw[j0o (j05 hb k1),j0o (j05 hb k2)];exact hb
   refine⟨r,dr,R,rfl,j0k,r1,r2,fun H2 B2 b2=>⟨rfl,?_⟩⟩
   exact hq r H2 k1 ⟨[],B2,.refl _,.nil⟩ (fun b o h=>b2 b o (j05 h k1) (y1 _ _ h))
def j5h (a:Adr):Sp:=fun vs H Q _=>∃ (g:G83) (wd:Str) (p:Addr),vs=[.str wd,.ref p]∧GAt H g wd p∧∀ t w v H',H' t=some (.tup [.ref w,v])→g.rs.wo a H' w→g.rs.st H' v→Ext H H'→Q (.ref t) H'
theorem j2n (T:Txt K mg a):FnOk P w K mg base (CXU P w) 9 a.f_z49 a.d_z49 ["word","start"] (j5h a):=by
 refine T.F_z49.okU jf4 (fun vs H Q E h=>?_) (fun cdv A outer s H vs Q E hr h=>?_)
 ·obtain⟨g,wd,p,rfl,hg,hq⟩:=h
  rfl
 ·obtain⟨g,wd,p,rfl,hg,hq⟩:=h
  have zc_Both:=T.cl_Both
  have zn_Both_world:=T.na_Both_world
  have zc_Buyer:=T.cl_Buyer
  have zn_Buyer_world:=T.na_Buyer_world
  have zc_Changer:=T.cl_Changer
  have zn_Changer_world:=T.na_Changer_world
  have zc_Filler:=T.cl_Filler
  have zn_Filler_world:=T.na_Filler_world
  have zc_Front:=T.cl_Front
  have zn_Front_world:=T.na_Front_world
  have zc_Keeper:=T.cl_Keeper
  have zn_Keeper_world:=T.na_Keeper_world
  refine⟨_,(j02 (j0z (i:=2) jf4.nd rfl (by first | exact Or.inl rfl | exact Or.inr rfl) (j0f (j44 T) (hr.mono (by decide)) (by rfl) T.m_z88 T.F_z88.kp T.b_z88 .nil j0d (j00 (pv 0) (j00 (pv 1) j01))))
   (j03 (j0a (j1h (j00 (j0l (pv 2) rfl) (j00 (j0i (j0b (pv 2) T.cl_Both T.me_Both_state (Nl.ok_Rule_state T) (hr.mono (by decide)) T.b_z56 .nil j0d) (j0i (j0b (pv 2) T.cl_Front T.me_Front_state (Ns.ok_Rule_state T) (hr.mono (by decide)) T.b_z56 .nil j0d) (j0i (j0b (pv 2) T.cl_Buyer T.me_Buyer_state (Nh.ok_Rule_state T) (hr.mono (by decide)) T.b_z56 .nil j0d) (j0i (j0b (pv 2) T.cl_Changer T.me_Changer_state (Nw.ok_Rule_state T) (hr.mono (by decide)) T.b_z56 .nil j0d) (j0i (j0b (pv 2) T.cl_Keeper T.me_Keeper_state (Nk.ok_Rule_state T) (hr.mono (by decide)) T.b_z56 .nil j0d) (j0b (pv 2) T.cl_Filler T.me_Filler_state (Nb.ok_Rule_state T) (hr.mono (by decide)) T.b_z56 .nil j0d)))))) j01)))))),?_⟩
  walk_at "v"
  refine⟨g,wd,p,rfl,hg,fun r H1 n1 B e1=>?_⟩
  cases g with
  | line ns =>
   obtain⟨dx,wo,dw,sp,h1,h2,h3⟩:=Nl.LineAt.ex B
   walk_at "v"
   refine j0j ?_
   walk_at "v"
   refine⟨r,_,_,rfl,B,fun v hv=>?_⟩
   walk_at "v"
   intro t' H2 n2 q2 e2
   exact hq t' wo _ H2 q2 ⟨dw,e2 _ _ h2⟩ ⟨v,rfl,(e2 _ _ hv)⟩ (e1.tr e2)
  | shelf ss =>
   obtain⟨dx,wo,dw,sp,tp,h1,h2,h3,h4⟩:=Ns.ShelfAt.ex B
   walk_at "v"
   refine j04 (j0j ?_)
   walk_at "v"
   refine⟨r,_,_,_,rfl,B,fun v hv=>?_⟩
   walk_at "v"
   intro t' H2 n2 q2 e2
   exact hq t' wo _ H2 q2 ⟨dw,tp,e2 _ _ h2,e2 _ _ h4⟩ ⟨v,rfl,(e2 _ _ hv)⟩ (e1.tr e2)
  | hire W =>
   obtain⟨dx,wo,dw,h1,h2⟩:=Nh.BuyAt.ex B
   walk_at "v"
   refine j04 (j04 (j0j ?_))
   walk_at "v"
   refine⟨r,_,_,_,rfl,B,?_⟩
   walk_at "v"
   intro t' H2 n2 q2 e2
   exact hq t' wo _ H2 q2 ⟨dw,e2 _ _ h2⟩ rfl (e1.tr e2)
  | ways n t h =>
   obtain⟨dx,wo,dw,q,h1,h2,h3⟩:=Nw.WaysAt.ex B
   walk_at "v"
   refine j04 (j04 (j04 (j0j ?_)))
   walk_at "v"
   refine⟨r,_,_,_,_,rfl,B,?_⟩
   walk_at "v"
   intro t' H2 n2 q2 e2
   exact hq t' wo _ H2 q2 ⟨dw,by have:=h2;rw[Nw.fst_len] at this;exact e2 _ _ this⟩ rfl (e1.tr e2)
  | store ss =>
   obtain⟨dx,wo,dw,sp,q,ss0,kk⟩:=Nk.KeepAt.ex B
   have h1:=kk.hr
   have h2:=kk.hw
   walk_at "v"
   refine j04 (j04 (j04 (j04 (j0j ?_))))
   walk_at "v"
   refine⟨r,_,_,rfl,B,fun v vs vp vo hv=>?_⟩
   walk_at "v"
   intro t' H2 n2 q2 e2
   exact hq t' wo _ H2 q2 ⟨dw,e2 _ _ h2⟩ ⟨v,vs,rfl,(e2 _ _ hv),vp,vo⟩ (e1.tr e2)
  | bags R =>
   obtain⟨ss0,B0,pm0,pw0⟩:=B
   obtain⟨dx,wo,dw,sp,q,h1,h2,h3,h4⟩:=Nb.BagAt.ex B0
   walk_at "v"
   refine j04 (j04 (j04 (j04 (j04 ?_))))
   walk_at "v"
   refine⟨r,_,_,_,_,rfl,B0,fun v hv=>?_⟩
   walk_at "v"
   intro t' H2 n2 q2 e2
   exact hq t' wo _ H2 q2 ⟨dw,e2 _ _ h2⟩ ⟨v,_,rfl,(e2 _ _ hv),pm0,pw0⟩ (e1.tr e2)
def j74:Sp:=fun vs H Q _=>∃ c k,vs=[.int c,.int k]∧0≤k∧k≤1000000∧∀ n,0≤n→n < 2147483629→Q (.int n) H
theorem j1j (T:Txt K mg a):FnOk P w K mg base (CXU P w) 1 a.f_z73 a.d_z73 ["_law_cell_here","_law_k"] (j74):=by
 refine T.F_z73.okU jf7 (fun vs H Q E h=>?_) (fun cdv A outer s H vs Q E hr h=>?_)
 ·obtain⟨c,k,rfl,h0,h1,hq⟩:=h
  rfl
 ·obtain⟨c,k,rfl,h0,h1,hq⟩:=h
  refine⟨_,(j02 (j0z (i:=2) jf7.nd rfl (by first | exact Or.inl rfl | exact Or.inr rfl) (j0p j1g (j0p j1a (j0p j1a (j0p j5q (j0p j1g (pv 0) j08) j08) (j0p j5q (j0p j5q j08 (pv 1)) (pv 1))) j08) j08))
   (j03 (j0a (j0p j1g (j0p j5q (pv 2) (pv 2)) j08)))),?_⟩
  walk_at "v"
  exact hq _ (by omega) (by omega)
theorem at4p {x y z u lo hi:Int} (n:Int) (h:lo≤x∧x≤hi) (h2:lo≤y∧y≤hi) (h3:lo≤z∧z≤hi) (h4:lo≤u∧u≤hi):∃ m:Int,atI [V.int x,V.int y,V.int z,V.int u] (n % 4)=some (.int m)∧lo≤m∧m≤hi:=by
 have h0:n % 4=0∨n % 4=1∨n % 4=2∨n % 4=3:=by omega
 rcases h0 with e | e | e | e <;> rw[e]
 ·exact⟨x,rfl,h⟩
 ·exact⟨y,rfl,h2⟩
 ·exact⟨z,rfl,h3⟩
 ·exact⟨u,rfl,h4⟩
def j67:Sp:=fun vs H Q _=>∃ c k,vs=[.int c,.int k]∧0≤k∧k≤1000000∧ib c≤1048577∧∀ n H',0≤n→n≤1000000000000000000→Ext H H'→Q (.int n) H'
theorem j16 (T:Txt K mg a):FnOk P w K mg base (CXU P w) 2 a.f_z60 a.d_z60 ["_law_cell_here","_law_k"] (j67):=by
 refine T.F_z60.okU jf6 (fun vs H Q E h=>?_) (fun cdv A outer s H vs Q E hr h=>?_)
 ·obtain⟨c,k,rfl,k0,k1,hb,hq⟩:=h
  rfl
 ·obtain⟨c,k,rfl,k0,k1,hb,hq⟩:=h
  refine⟨_,(j02 (j0z (i:=2) jf6.nd rfl (by first | exact Or.inl rfl | exact Or.inr rfl) (j0f (j1j T) (hr.mono (by decide)) (by rfl) T.m_z73 T.F_z73.kp T.b_z73 .nil j0d (j00 (pv 0) (j00 (pv 1) j01))))
   (j02 (j0u (j0g jd6 (j0p j1g (pv 2) j08) j08 (j0m _)) (j03 (j0a (j0p j1g (j0p j1o (pv 2) j08) j08))) j0c)
   (j02 (j0u (j0g (oEq hr) (j0p j1g (pv 2) j08) j08 (j0m _)) (j03 (j0a (j14 oIx (j35 (j00 (j0p j83 j08 j08) (j00 (j0p j2q (j0p j83 j08 j08) j08) (j00 j08 (j00 j08 j01))))) (j0p j1g (j0p j1o (pv 2) j08) j08) (fun _ _=>rfl)))) j0c)
   (j03 (j0a (j0p j1g (j0p j5q (j0p j1a (pv 0) (pv 2)) (j0p j83 j08 j08)) (j0p j1a (j0p j83 j08 j08) j08))))))),?_⟩
  walk_at "v"
  refine⟨c,k,rfl,k0,k1,fun n n0 n1=>?_⟩
  walk_at "v"
  refine iteD (fun h=>?_) (fun h=>?_)
  ·walk_at "v"
   exact hq _ _ (by omega) (by omega) Ext.rfl'
  ·walk_at "v"
   refine iteD (fun h=>?_) (fun h=>?_)
   ·walk_at "v"
    intro l H1 nl q1 e1
    walk_at "v"
    obtain⟨m,hm,m0,m1⟩:=at4p (lo:=0) (hi:=1000000000000000000) (x:=1000000000000000000) (y:=1000000000000000000-1) (z:=0) (u:=1) (n / 4) (by omega) (by omega) (by omega) (by omega)
    refine j25 q1 hm ?_
    walk_at "v"
    exact hq _ _ m0 m1 e1
   ·walk_at "v"
    refine jbo (mulM hb n0 n1) ?_
    walk_at "v"
    exact hq _ _ (by omega) (by omega) Ext.rfl'
def stm (q:Nat):Str:=match q with | 0=>Str.ofString "abcdefgh" | 1=>Str.ofString "stopstop" | 2=>Str.ofString "zyxwvuts" | _=>Str.ofString "aaaaaaaa"
theorem stm_8:∀ q:Nat,q < 4→(stm q).length=8:=by decide +kernel
theorem jfa:∀ q:Nat,q < 4→∀ l:Nat,l < 8→(outS (stm q) none (some ((1+l:Nat):Int))).length=1+l:=by decide +kernel
theorem stm_ok:∀ q:Nat,q < 4→∀ l:Nat,l < 8→∀ k:Nat,k < 1+l→(outS (outS (stm q) none (some ((1+l:Nat):Int))) none (some (k:Int))).length+(outS (outS (stm q) none (some ((1+l:Nat):Int))) (some ((k:Int)+1)) none).length+1≤8∧(outS (outS (stm q) none (some ((1+l:Nat):Int))) none (some (k:Int))).cps.toList.all nmL=true∧(outS (outS (stm q) none (some ((1+l:Nat):Int))) (some ((k:Int)+1)) none).cps.toList.all nmL=true:=by decide +kernel
theorem stm_at (n:Int):∃ q:Nat,q < 4∧atI [V.str (Str.ofString "abcdefgh"),V.str (Str.ofString "stopstop"),V.str (Str.ofString "zyxwvuts"),V.str (Str.ofString "aaaaaaaa")] (n % 4)=some (.str (stm q)):=by
 have h0:n % 4=0∨n % 4=1∨n % 4=2∨n % 4=3:=by omega
 rcases h0 with e | e | e | e <;> rw[e]
 ·exact⟨0,by decide,rfl⟩
 ·exact⟨1,by decide,rfl⟩
 ·exact⟨2,by decide,rfl⟩
 ·exact⟨3,by decide,rfl⟩
theorem jb9:(Str.ofString "abcdefghijklmnopqrstuvwxyz").length=26:=by decide
theorem jd2 {i:Int} (h0:0≤i) (h1:i < 26):atI (Str.ofString "abcdefghijklmnopqrstuvwxyz").cps.toList i=some (97+i.toNat):=by
 have e:(Str.ofString "abcdefghijklmnopqrstuvwxyz").cps.toList=(List.range 26).map (97+·):=by decide
 rw[e]
 refine j32 h0 ?_
 rw[List.getElem?_map,List.getElem?_range (by omega)]
 rfl
theorem jj4 (a b:Str):(a++b).cps.toList=a.cps.toList++b.cps.toList:=by
 show (a.cps++b.cps).toList=_
 simp
def nm83 (x y:Str) (c j:Nat):Str:=x++(⟨#[97+(c+3 * j) % 26]⟩:Str)++y
theorem jba (x y:Str) (c j:Nat):(nm83 x y c j).cps.toList=x.cps.toList++[97+(c+3 * j) % 26]++y.cps.toList:=by
 unfold nm83
 rw[jj4,jj4]
theorem nm83_n {x y:Str}{c j:Nat} (hl:x.length+y.length+1≤8) (hx:x.cps.toList.all nmL=true) (hy:y.cps.toList.all nmL=true):nmS (nm83 x y c j)=true:=by
 have l:(nm83 x y c j).length=x.length+1+y.length:=by
  show (nm83 x y c j).cps.size=_
  rw[← Array.length_toList,jba]
  simp
  show x.cps.size+(y.cps.size+1)=x.cps.size+1+y.cps.size
  omega
 unfold nmS
 rw[l,jba,decide_eq_true (show 1≤x.length+1+y.length by omega),decide_eq_true (show x.length+1+y.length≤8 by omega),Bool.true_and,Bool.true_and,List.all_append,List.all_append,hx,hy]
 have:nmL (97+(c+3 * j) % 26)=true:=by unfold nmL;rw[decide_eq_true (by omega),decide_eq_true (by omega)];rfl
 simp[this]
theorem jd3 {x y:Str}{c i j:Nat} (hi:i < 8) (hj:j < 8) (e:nm83 x y c i=nm83 x y c j):i=j:=by
 have h:(nm83 x y c i).cps.toList=(nm83 x y c j).cps.toList:=congrArg (fun z:Str=>z.cps.toList) e
 rw[jba,jba] at h
 have h2:=List.append_cancel_right h
 have h3:=List.append_cancel_left h2
 have h4:97+(c+3 * i) % 26=97+(c+3 * j) % 26:=by simpa using h3
 omega
theorem jbx {x y:Str}{c:Nat}:∀ {m:Nat},m≤8→((List.range m).map (nm83 x y c)).Nodup
 | 0,_=>by simp
 | m+1,h=>by
  rw[List.range_succ,List.map_append,List.nodup_append]
  refine⟨jbx (by omega),by simp,fun a ha b hb e=>?_⟩
  obtain⟨i,hi,rfl⟩:=List.mem_map.mp ha
  have hb':b=nm83 x y c m:=by simpa using hb
  rw[hb'] at e
  have:=jd3 (by have:=List.mem_range.mp hi;omega) (by omega) e
  have:=List.mem_range.mp hi
  omega
def j75:Sp:=fun vs H Q _=>∃ (n m:Int),vs=[.int n,.int m]∧0≤n∧1≤m∧m≤8∧∀ l (ss:List Str) H',H l=none→H' l=some (.lst (ss.map V.str))→Names ss→(ss.length:Int)=m→Ext H H'→Q (.ref l) H'
theorem j45 (T:Txt K mg a):FnOk P w K mg base (CXU P w) 1 a.f_z74 a.d_z74 ["_law_number","_law_many"] (j75):=by
 refine T.F_z74.okU j8d (fun vs H Q E h=>?_) (fun cdv A outer s H vs Q E hr h=>?_)
 ·obtain⟨n,m,rfl,n0,m1,m8,hq⟩:=h
  rfl
 ·obtain⟨n,m,rfl,n0,m1,m8,hq⟩:=h
  refine⟨_,(j02 (j0z (i:=2) j8d.nd rfl (by first | exact Or.inl rfl | exact Or.inr rfl) (j1u ja3 (j14 oIx (j35 (j00 j0q (j00 j0q (j00 j0q (j00 j0q j01))))) (j0p j1g (pv 0) j08) (fun _ _=>rfl)) j31 (j27 (j0p j1a j08 (j0p j1g (j0p j1o (pv 0) j08) j08)))))
   (j02 (j0z (i:=3) j8d.nd rfl (by first | exact Or.inl rfl | exact Or.inr rfl) (j0p j1g (j0p j1o (pv 0) j08) (j07 j1w (by rfl) T.n_len PySem.boot_len (j00 (pv 2) j01))))
   (j02 (j0z (i:=4) j8d.nd rfl (by first | exact Or.inl rfl | exact Or.inr rfl) (j35 j01))
   (j02 (jab PassesOwn.never rfl (j1m rfl T.n_range (j00 (pv 1) j01)) (j0w (i:=5) j8d.nd rfl (by first | exact Or.inl rfl | exact Or.inr rfl)) (j02 (j0z (i:=6) j8d.nd rfl (by first | exact Or.inl rfl | exact Or.inr rfl) (j14 oIx j0q (j0p j1g (j0p j1a (j0p j1o (pv 0) j08) (j0p j5q j08 (pv 5))) j08) (fun _ _=>rfl)))
   (j03 (j1l (pe_bm PySem.F.plainAttrs_list PySem.F.slot_list_append PySem.F.type_list_append j7i (pv 4) (j00 (j0p j1a (j0p j1a (j1u ja3 (pv 2) j31 (j27 (pv 3))) (pv 6)) (j1u ja3 (pv 2) (j27 (j0p j1a (pv 3) j08)) j31)) j01))))))
   (j03 (j0a (pv 4))))))),?_⟩
  obtain⟨q,q4,hq4⟩:=stm_at n
  obtain⟨l,el,l8⟩:∃ l:Nat,n / 4 % 8=l∧l < 8:=⟨(n / 4 % 8).toNat,by omega,by omega⟩
  have s8:=stm_8 q q4
  have sl:=jfa q q4 l l8
  have sk:=stm_ok q q4 l l8
  walk_at "v"
  intro l1 H1 nl1 q1 e1
  walk_at "v"
  refine j25 q1 hq4 ?_
  walk_at "v"
  rw[el,show (1:Int)+(l:Nat)=((1+l:Nat):Int) by omega]
  refine jh8 (by omega) ?_
  generalize outS (stm q) none (some ((1+l:Nat):Int))=z at *
  walk_at "v"
  refine jbp (by omega) ?_
  rw[sl]
  have b0:=Int.emod_nonneg (n / 32) (show ((1+l:Nat):Int)≠0 by omega)
  have b1:=Int.emod_lt_of_pos (n / 32) (show (0:Int) < ((1+l:Nat):Int) by omega)
  obtain⟨k,ek,k1⟩:∃ k:Nat,n / 32 % ((1+l:Nat):Int)=k∧k < 1+l:=⟨(n / 32 % ((1+l:Nat):Int)).toNat,by omega,by omega⟩
  obtain⟨ok1,ok2,ok3⟩:=sk k k1
  obtain⟨c0,ec⟩:∃ c0:Nat,n / 256=c0:=⟨(n / 256).toNat,by omega⟩
  walk_at "v"
  rw[ek]
  intro l2 H2 n2 q2 e2
  walk_at "v"
  refine⟨_,rfl,by omega,by omega,j7a (fun i σ H3=>(∃ u1 u2,σ=[some (.int n),some (.int m),some (.str z),some (.int (k:Nat)),some (.ref l2),u1,u2])∧Ext H H3∧H3 l2=some (.lst (((List.range i).map (nm83 (outS z none (some (k:Int))) (outS z (some ((k:Int)+1)) none) c0)).map V.str))) ⟨⟨none,none,rfl⟩,e1.tr e2,q2⟩ ?_ ?_⟩
  ·rintro i σ H3 hi ⟨⟨u1,u2,rfl⟩,x3,q3⟩
   rw[show ((0:Int)+(i:Nat))=(i:Nat) by omega]
   walk_at "v"
   rw[ec]
   refine r_ixS1 (by rw[jb9];omega) (jd2 (i:=((c0:Int)+3 * (i:Int)) % 26) (by omega) (by omega)) ?_
   rw[show 97+(((c0:Int)+3 * (i:Int)) % 26).toNat=97+(c0+3 * i) % 26 by omega]
   walk_at "v"
   refine jh8 (by omega) ?_
   walk_at "v"
   refine jbn (by show _+1≤_;omega) ?_
   walk_at "v"
   refine jh8 (by omega) ?_
   walk_at "v"
   refine jbn (by
    have:(outS z none (some (k:Int))++(⟨#[97+(c0+3 * i) % 26]⟩:Str)).length=(outS z none (some (k:Int))).length+1:=by
     show (outS z none (some (k:Int))++(⟨#[97+(c0+3 * i) % 26]⟩:Str)).cps.size=_
     rw[← Array.length_toList,jj4]
     simp
     rfl
    omega) ?_
   walk_at "v"
   refine jcd q3 (by simp;omega) fun H4 q4' b4=>?_
   refine⟨⟨_,_,rfl⟩,Ext.but x3 b4 (e1.free n2),?_⟩
   rw[List.range_succ,List.map_append,List.map_append]
   exact q4'
  ·rintro σ H3 ⟨⟨u1,u2,rfl⟩,x3,q3⟩
   walk_at "v"
   refine hq l2 _ H3 (e1.free n2) q3 ⟨fun s hs=>?_,jbx (by omega),by simp;omega,by simp;omega⟩ (by simp;omega) x3
   obtain⟨j,_,rfl⟩:=List.mem_map.mp hs
   exact nm83_n ok1 ok2 ok3
def j76:Sp:=fun vs H Q _=>∃ c k,vs=[.int c,.int k]∧0≤k∧k≤999990∧ib c≤1048577∧∀ n H',-1000000000000000000≤n→n≤1000000000000000000→Ext H H'→Q (.int n) H'
theorem j46 (T:Txt K mg a):FnOk P w K mg base (CXU P w) 3 a.f_z75 a.d_z75 ["_law_cell_here","_law_k"] (j76):=by
 refine T.F_z75.okU sc_z75 (fun vs H Q E h=>?_) (fun cdv A outer s H vs Q E hr h=>?_)
 ·obtain⟨c,k,rfl,k0,k1,hb,hq⟩:=h
  rfl
 ·obtain⟨c,k,rfl,k0,k1,hb,hq⟩:=h
  refine⟨_,(j03 (j0a (j0p j5q (j0f (j16 T) (hr.mono (by decide)) (by rfl) T.m_z60 T.F_z60.kp T.b_z60 .nil j0d (j00 (pv 0) (j00 (pv 1) j01))) (j0p j2q j08 (j0p j5q j08 (j0p j1g (j0p j1o (j0f (j1j T) (hr.mono (by decide)) (by rfl) T.m_z73 T.F_z73.kp T.b_z73 .nil j0d (j00 (pv 0) (j00 (j0p j1a (pv 1) j08) j01))) j08) j08)))))),?_⟩
  walk_at "v"
  refine⟨c,k,rfl,k0,by omega,hb,fun n H1 n0 n1 e1=>?_⟩
  walk_at "v"
  refine⟨c,_,rfl,by omega,by omega,fun m m0 m1=>?_⟩
  walk_at "v"
  have h2:m / 8 % 2=0∨m / 8 % 2=1:=by omega
  refine hq _ H1 ?_ ?_ e1 <;> (rcases h2 with e | e <;> rw[e] <;> omega)
def j8k:Sp:=fun vs H Q _=>∃ (g:G83) (wd:Str) (p:Addr) (c k:Int),vs=[.str wd,.ref p,.int c,.int k]∧GAt H g wd p∧ib c≤1048576∧0≤k∧k≤1000∧∀ v (ww:W83) H',ww.at_ H' v→g.rs.okW ww→Ext H H'→Q v H'
theorem j8l (T:Txt K mg a):FnOk P w K mg base (CXU P w) 4 a.f_z85 a.d_z85 ["_law_word","_law_start_here","_law_cell_here","_law_k"] (j8k):=by
 refine T.F_z85.okU jf5 (fun vs H Q E h=>?_) (fun cdv A outer s H vs Q E hr h=>?_)
 ·obtain⟨g,wd,p,c,k,rfl,⟨hwd,hp,hok⟩,hc,k0,k1,hq⟩:=h
  rfl
 ·obtain⟨g,wd,p,c,k,rfl,⟨hwd,hp,hok⟩,hc,k0,k1,hq⟩:=h
  refine⟨_,(j02 (j0z (i:=4) jf5.nd rfl (by first | exact Or.inl rfl | exact Or.inr rfl) (j0f (j1j T) (hr.mono (by decide)) (by rfl) T.m_z73 T.F_z73.kp T.b_z73 .nil j0d (j00 (pv 2) (j00 (pv 3) j01))))
   (j02 (j0u (j0g (oEq hr) (pv 0) j0q (j0m _)) (j03 (j0a (j14 oIx (j35 (j00 (j14 oIx (pv 1) (j0p j1g (j0p j1o (pv 4) j08) (j07 j1w (by rfl) T.n_len PySem.boot_len (j00 (pv 1) j01))) (fun _ _=>rfl)) (j00 (j0f (j46 T) (hr.mono (by decide)) (by rfl) T.m_z75 T.F_z75.kp T.b_z75 .nil j0d (j00 (pv 2) (j00 (j0p j1a (pv 3) j08) j01))) j01))) (j0p j1g (pv 4) j08) (fun _ _=>rfl)))) j0c)
   (j02 (j0u (j0g (oEq hr) (pv 0) j0q (j0m _)) (j03 (j0a (j14 oIx (pv 1) (j0p j1g (pv 4) (j07 j1w (by rfl) T.n_len PySem.boot_len (j00 (pv 1) j01))) (fun _ _=>rfl)))) j0c)
   (j02 (j0u (j0g (oEq hr) (pv 0) j0q (j0m _)) (j03 (j0a (j14 oIx (j0p j1a (j0r ja4 (by rfl) T.n_list PyProof.Rows.boot_list (j00 (pv 1) j01)) (j0f (j45 T) (hr.mono (by decide)) (by rfl) T.m_z74 T.F_z74.kp T.b_z74 .nil j0d (j00 (j0p j1o (pv 4) j08) (j00 j08 j01)))) (j0p j1g (pv 4) (j0p j1a (j07 j1w (by rfl) T.n_len PySem.boot_len (j00 (pv 1) j01)) j08)) (fun _ _=>rfl)))) j0c)
   (j02 (j0u (j0g (oEq hr) (pv 0) j0q (j0m _)) (j03 (j0a (j0f (j16 T) (hr.mono (by decide)) (by rfl) T.m_z60 T.F_z60.kp T.b_z60 .nil j0d (j00 (pv 2) (j00 (j0p j1a (pv 3) j08) j01))))) j0c)
   (j02 (j0u (j0g (oEq hr) (pv 0) j0q (j0m _)) (j03 (j0a (j0r j3i (by rfl) T.n_tuple PyProof.Rows.boot_tuple (j00 (j1f (["_law_j"]:List Str) (["_law_cell_here","_law_k"]:List Str) [2,3] rfl ⟨rfl,by decide +kernel,by decide +kernel,by rfl,⟨⟨rfl,by first | exact Or.inl rfl | exact Or.inr rfl,by first | exact Or.inl rfl | exact Or.inr rfl⟩,⟨rfl,by first | exact Or.inl rfl | exact Or.inr rfl,by first | exact Or.inl rfl | exact Or.inr rfl⟩,trivial⟩⟩ (j1m rfl T.n_range (j00 (j14 oIx (pv 1) j08 (fun _ _=>rfl)) j01)) (fun _ _ _ _=>⟨(j0w (i:=0) (by show ((["_law_j"]:List Str)++(["_law_cell_here","_law_k"]:List Str)).Nodup;decide +kernel) rfl (by first | exact Or.inl rfl | exact Or.inr rfl)),(show PTs _ [] [] from trivial),(j0f (j16 T) (hr.mono (by decide)) (by rfl) T.m_z60 T.F_z60.kp T.b_z60 .nil j0d (j00 (pv 1) (j00 (j0p j1a (j0p j1a (j0p j5q j08 (pv 2)) j08) (pv 0)) j01)))⟩)) j01)))) j0c)
   (j03 (j0a (j0p j1a j08 (j0p j1g (j0f (j16 T) (hr.mono (by decide)) (by rfl) T.m_z60 T.F_z60.kp T.b_z60 .nil j0d (j00 (pv 2) (j00 (j0p j1a (pv 3) j08) j01))) (j14 oIx (pv 1) j08 (fun _ _=>rfl)))))))))))),?_⟩
  have hc1:=Nat.le_succ_of_le hc
  walk_at "v"
  refine⟨_,_,rfl,by omega,by omega,fun n n0 n1=>?_⟩
  cases g with
  | line ns =>
   have hwd:wd=Str.ofString "line":=hwd
   walk_at "v"
   refine j09 ?_
   rw[show decide (wd=Str.ofString "line")=true by rw[hwd];decide]
   walk_at "v"
   have hp:H p=some (.tup (ns.map V.int)):=hp
   have lo:=hok.lo
   refine j0t hp ?_
   rw[List.length_map]
   have c0:=Int.emod_nonneg (n / 2) (show (ns.length:Int)≠0 by omega)
   have c1:=Int.emod_lt_of_pos (n / 2) (show (0:Int) < ns.length by omega)
   walk_at "v"
   refine j1d hp (j21 c0 c1) ?_
   walk_at "v"
   refine⟨c,_,rfl,by omega,by omega,hc1,fun z H1 z0 z1 e1=>?_⟩
   walk_at "v"
   intro l2 H2 n2 q2 e2
   walk_at "v"
   have hb:=hok.pl (ns.getD (n / 2 % (ns.length:Int)).toNat 0) (by rw[List.getD_eq_getElem?_getD,List.getElem?_eq_getElem (show (n / 2 % (ns.length:Int)).toNat < ns.length by omega)];exact List.getElem_mem _)
   have h2:n % 2=0∨n % 2=1:=by omega
   rcases h2 with e | e
   ·refine j25 q2 (v:=.int (ns.getD (n / 2 % (ns.length:Int)).toNat 0)) (by rw[e];rfl) ?_
    walk_at "v"
    exact hq _ (.i _) H2 rfl ⟨_,rfl,hb⟩ (e1.tr e2)
   ·refine j25 q2 (v:=.int z) (by rw[e];rfl) ?_
    walk_at "v"
    exact hq _ (.i _) H2 rfl ⟨_,rfl,z0,z1⟩ (e1.tr e2)
  | shelf ss =>
   have hwd:wd=Str.ofString "shelf":=hwd
   walk_at "v"
   refine j09 ?_
   rw[show decide (wd=Str.ofString "line")=false by rw[hwd];decide]
   walk_at "v"
   refine j09 ?_
   rw[show decide (wd=Str.ofString "shelf")=true by rw[hwd];decide]
   walk_at "v"
   have hp:H p=some (.tup (ss.map V.str)):=hp
   have lo:=hok.lo
   refine j0t hp ?_
   rw[List.length_map]
   have c0:=Int.emod_nonneg n (show (ss.length:Int)≠0 by omega)
   have c1:=Int.emod_lt_of_pos n (show (0:Int) < ss.length by omega)
   walk_at "v"
   refine j1d hp (j6q c0 c1) ?_
   walk_at "v"
   exact hq _ (.s _) H rfl ⟨_,rfl,by rw[List.getD_eq_getElem?_getD,List.getElem?_eq_getElem (show (n % (ss.length:Int)).toNat < ss.length by omega)];exact List.getElem_mem _⟩ Ext.rfl'
  | hire W =>
   have hwd:wd=Str.ofString "hire":=hwd
   walk_at "v"
   refine j09 ?_
   rw[show decide (wd=Str.ofString "line")=false by rw[hwd];decide]
   walk_at "v"
   refine j09 ?_
   rw[show decide (wd=Str.ofString "shelf")=false by rw[hwd];decide]
   walk_at "v"
   refine j09 ?_
   rw[show decide (wd=Str.ofString "store")=false by rw[hwd];decide]
   walk_at "v"
   refine j09 ?_
   rw[show decide (wd=Str.ofString "hire")=true by rw[hwd];decide]
   walk_at "v"
   refine⟨c,_,rfl,by omega,by omega,hc1,fun z H1 z0 z1 e1=>?_⟩
   exact hq _ (.i z) H1 rfl ⟨_,rfl,z0,z1⟩ e1
  | ways n' t h =>
   have hwd:wd=Str.ofString "ways":=hwd
   walk_at "v"
   refine j09 ?_
   rw[show decide (wd=Str.ofString "line")=false by rw[hwd];decide]
   walk_at "v"
   refine j09 ?_
   rw[show decide (wd=Str.ofString "shelf")=false by rw[hwd];decide]
   walk_at "v"
   refine j09 ?_
   rw[show decide (wd=Str.ofString "store")=false by rw[hwd];decide]
   walk_at "v"
   refine j09 ?_
   rw[show decide (wd=Str.ofString "hire")=false by rw[hwd];decide]
   walk_at "v"
   refine j09 ?_
   rw[show decide (wd=Str.ofString "ways")=true by rw[hwd];decide]
   walk_at "v"
   obtain⟨n1',n8,h0,h1,t0,t1⟩:=hok
   refine j1d hp rfl ?_
   walk_at "v"
   refine⟨_,rfl,by omega,by omega,fun acc hn _ _ _ _=>j5p (fun x=>0≤x∧x≤1000000000000000000) (by omega) hn (fun i H3 Y hi e hY=>?_) fun xs H2 lx hx e2 ha=>?_⟩
   ·walk_at "v"
    exact⟨c,_,rfl,by omega,by omega,hc1,fun z H4 z0 z1 e4=>hY _ _ ⟨z0,z1⟩ e4⟩
   walk_at "v"
   refine j17 ha fun t4 H4 n4 q4 e4=>?_
   exact hq _ (.l xs) H4 ⟨t4,rfl,q4⟩ ⟨xs,rfl,by omega,hx⟩ (e2.tr e4)
  | store ss =>
   have hwd:wd=Str.ofString "store":=hwd
   walk_at "v"
   refine j09 ?_
   rw[show decide (wd=Str.ofString "line")=false by rw[hwd];decide]
   walk_at "v"
   refine j09 ?_
   rw[show decide (wd=Str.ofString "shelf")=false by rw[hwd];decide]
   walk_at "v"
   refine j09 ?_
   rw[show decide (wd=Str.ofString "store")=true by rw[hwd];decide]
   walk_at "v"
   have hp:H p=some (.tup (ss.map V.str)):=hp
   have lo:=hok.lo
   have hi8:=hok.hi
   refine j3j hp fun l1 H1 nl1 q1 e1=>?_
   walk_at "v"
   refine⟨_,8,rfl,by omega,by omega,by omega,fun l2 qs H2 n2 q2 hN hl e2=>?_⟩
   walk_at "v"
   refine j2m (e2 _ _ q1) q2 (by simp;omega) fun l3 H3 n3 q3 e3=>?_
   rw[show ss.map V.str++qs.map V.str=(ss++qs).map V.str by simp] at q3
   walk_at "v"
   refine j0t ((e1.tr (e2.tr e3)) _ _ hp) ?_
   rw[List.length_map]
   have c0:=Int.emod_nonneg n (show (ss.length:Int)+8≠0 by omega)
   have c1:=Int.emod_lt_of_pos n (show (0:Int) < (ss.length:Int)+8 by omega)
   have la:(ss++qs).length=ss.length+8:=by rw[List.length_append];omega
   walk_at "v"
   refine j25 q3 (j6q c0 (by rw[la];omega)) ?_
   walk_at "v"
   refine hq _ (.s _) H3 rfl ⟨_,rfl,?_⟩ (e1.tr (e2.tr e3))
   have hm:(ss++qs).getD (n % ((ss.length:Int)+8)).toNat ⟨#[]⟩∈ss++qs:=by rw[List.getD_eq_getElem?_getD,List.getElem?_eq_getElem (show (n % ((ss.length:Int)+8)).toNat < (ss++qs).length by omega)];exact List.getElem_mem _
   exact (List.mem_append.mp hm).elim (fun z=>hok.nm _ z) fun z=>hN.nm _ z
  | bags R =>
   have hwd:wd=Str.ofString "bags":=hwd
   walk_at "v"
   refine j09 ?_
   rw[show decide (wd=Str.ofString "line")=false by rw[hwd];decide]
   walk_at "v"
   refine j09 ?_
   rw[show decide (wd=Str.ofString "shelf")=false by rw[hwd];decide]
   walk_at "v"
   refine j09 ?_
   rw[show decide (wd=Str.ofString "store")=false by rw[hwd];decide]
   walk_at "v"
   refine j09 ?_
   rw[show decide (wd=Str.ofString "hire")=false by rw[hwd];decide]
   walk_at "v"
   refine j09 ?_
   rw[show decide (wd=Str.ofString "ways")=false by rw[hwd];decide]
   walk_at "v"
   obtain⟨r1,r2⟩:=hok
   refine⟨c,_,rfl,by omega,by omega,hc1,fun z H1 z0 z1 e1=>?_⟩
   walk_at "v"
   refine j1d (e1 _ _ hp) rfl ?_
   have c0:=Int.emod_nonneg z (show R≠0 by omega)
   have c1:=Int.emod_lt_of_pos z (show (0:Int) < R by omega)
   walk_at "v"
   exact hq _ (.i _) H1 rfl ⟨_,rfl,by omega,by omega⟩ e1
def j8m (K:PySem.W.Frag):Sp:=fun vs H Q _=>∃ (p:Addr) (ns:List Int) (k:Int),vs=[.ref p,.int k]∧SqL K H p (ns.map V.int)∧0≤k∧(∀ z∈ns,ib z≤1048576)∧∀ c,ib c≤1048576→Q (.int c) H
theorem j4x (T:Txt K mg a):FnOk P w K mg base (CXU P w) 1 a.f_z81 a.d_z81 ["_law_script","_law_k"] (j8m K):=by
 refine T.F_z81.okU sc_z81 (fun vs H Q E h=>?_) (fun cdv A outer s H vs Q E hr h=>?_)
 ·obtain⟨p,ns,k,rfl,hS,hk,hb,hq⟩:=h
  rfl
 ·obtain⟨p,ns,k,rfl,hS,hk,hb,hq⟩:=h
  refine⟨_,(j02 (j0u (j0g jd6 (pv 1) (j07 j1w (by rfl) T.n_len PySem.boot_len (j00 (pv 0) j01)) (j0m _)) (j03 (j0a (j14 oIx (pv 0) (pv 1) (fun _ _=>rfl)))) j0c)
   (j03 (j0a j08))),?_⟩
  walk_at "v"
  refine jes hS ?_
  walk_at "v"
  rw[List.length_map]
  refine iteD (fun h=>?_) (fun h=>?_)
  ·walk_at "v"
   have hl:k.toNat < ns.length:=by omega
   refine r_ixS hS (v:=.int ns[k.toNat]) (j32 hk (by rw[List.getElem?_map,List.getElem?_eq_getElem hl];rfl)) ?_
   exact hq _ (hb _ (List.getElem_mem hl))
  ·walk_at "v"
   exact hq 0 (by decide)
def j77 (K:PySem.W.Frag):Sp:=fun vs H Q _=>∃ (p:Addr) (cs:List Int),vs=[.ref p]∧SqL K H p (cs.map V.int)∧(∀ z∈cs,ib z≤1048576)∧∀ t wd q (g:G83) H',H' t=some (.tup [.str wd,.ref q])→GAt H' g wd q→Ext H H'→Q (.ref t) H'
theorem j78 (T:Txt K mg a):FnOk P w K mg base (CXU P w) 4 a.f_z76 a.d_z76 ["_law_script"] (j77 K):=by
 refine T.F_z76.okU jb2 (fun vs H Q E h=>?_) (fun cdv A outer s H vs Q E hr h=>?_)
 ·obtain⟨p,cs,rfl,hS,hb,hq⟩:=h
  rfl
 ·obtain⟨p,cs,rfl,hS,hb,hq⟩:=h
  refine⟨_,(j02 (j0z (i:=1) jb2.nd rfl (by first | exact Or.inl rfl | exact Or.inr rfl) (j0f (j4x T) (hr.mono (by decide)) (by rfl) T.m_z81 T.F_z81.kp T.b_z81 .nil j0d (j00 (pv 0) (j00 j08 j01))))
   (j02 (j0z (i:=2) jb2.nd rfl (by first | exact Or.inl rfl | exact Or.inr rfl) (j0f (j1j T) (hr.mono (by decide)) (by rfl) T.m_z73 T.F_z73.kp T.b_z73 .nil j0d (j00 (pv 1) (j00 j08 j01))))
   (j02 (j0z (i:=3) jb2.nd rfl (by first | exact Or.inl rfl | exact Or.inr rfl) (j14 oIx (j35 (j00 j0q (j00 j0q (j00 j0q (j00 j0q (j00 j0q (j00 j0q j01))))))) (j0p j1g (j0f (j1j T) (hr.mono (by decide)) (by rfl) T.m_z73 T.F_z73.kp T.b_z73 .nil j0d (j00 (j0f (j4x T) (hr.mono (by decide)) (by rfl) T.m_z81 T.F_z81.kp T.b_z81 .nil j0d (j00 (pv 0) (j00 j08 j01))) (j00 j08 j01))) j08) (fun _ _=>rfl)))
   (j02 (j0u (j0g (oEq hr) (pv 3) j0q (j0m _)) (j03 (j0a (j1h (j00 (pv 3) (j00 (j0r j3i (by rfl) T.n_tuple PyProof.Rows.boot_tuple (j00 (j07 j37 (by rfl) T.n_sorted PyProof.Rows.boot_sorted (j00 (j1f (["_law_j"]:List Str) (["_law_cell_here"]:List Str) [1] rfl ⟨rfl,by decide +kernel,by decide +kernel,by rfl,⟨⟨rfl,by first | exact Or.inl rfl | exact Or.inr rfl,by first | exact Or.inl rfl | exact Or.inr rfl⟩,trivial⟩⟩ (j1m rfl T.n_range (j00 (j0p j1a j08 (j0p j1g (pv 2) j08)) j01)) (fun _ _ _ _=>⟨(j0w (i:=0) (by show ((["_law_j"]:List Str)++(["_law_cell_here"]:List Str)).Nodup;decide +kernel) rfl (by first | exact Or.inl rfl | exact Or.inr rfl)),(show PTs _ [] [] from trivial),(j0f (j46 T) (hr.mono (by decide)) (by rfl) T.m_z75 T.F_z75.kp T.b_z75 .nil j0d (j00 (pv 1) (j00 (j0p j1a j08 (pv 0)) j01)))⟩)) j01)) j01)) j01))))) j0c)
   (j02 (j0u (PW.pt (j34 (j0g (oEq hr) (pv 3) j0q (j0m _)) (j1k (j0g (oEq hr) (pv 3) j0q (j0m _))))) (j03 (j0a (j1h (j00 (pv 3) (j00 (j0r j3i (by rfl) T.n_tuple PyProof.Rows.boot_tuple (j00 (j0f (j45 T) (hr.mono (by decide)) (by rfl) T.m_z74 T.F_z74.kp T.b_z74 .nil j0d (j00 (j0p j1o (pv 2) j08) (j00 (j0p j1a j08 (j0p j1g (pv 2) j08)) j01))) j01)) j01))))) j0c)
   (j02 (j0u (j0g (oEq hr) (pv 3) j0q (j0m _)) (j03 (j0a (j1h (j00 (pv 3) (j00 (j1h (j00 (j0p j1a j08 (j0p j1g (pv 2) j08)) (j00 (j0f (j16 T) (hr.mono (by decide)) (by rfl) T.m_z60 T.F_z60.kp T.b_z60 .nil j0d (j00 (pv 1) (j00 j08 j01))) (j00 (j0p j1g (j0p j1o (pv 2) j08) (j0p j1a j08 (j0p j1g (pv 2) j08))) j01)))) j01))))) j0c)
   (j03 (j0a (j1h (j00 (pv 3) (j00 (j1h (j00 (j07 (cMax2 rfl) (by rfl) T.n_max PyProof.Rows.boot_max (j00 j08 (j00 (j0f (j16 T) (hr.mono (by decide)) (by rfl) T.m_z60 T.F_z60.kp T.b_z60 .nil j0d (j00 (pv 1) (j00 j08 j01))) j01))) j01)) j01))))))))))),?_⟩
  walk_at "v"
  refine⟨p,cs,1,rfl,hS,by decide,hb,fun c hc=>?_⟩
  have hc1:=Nat.le_succ_of_le hc
  walk_at "v"
  refine⟨_,_,rfl,by decide,by decide,fun n n0 n1=>?_⟩
  walk_at "v"
  intro l1 H1 nn1 q1 e1
  walk_at "v"
  refine⟨p,cs,0,rfl,e1.seqL hS,by decide,hb,fun c0 hc0=>?_⟩
  walk_at "v"
  refine⟨_,_,rfl,by decide,by decide,fun u u0 u1=>?_⟩
  walk_at "v"
  have h6:u % 6=0∨u % 6=1∨u % 6=2∨u % 6=3∨u % 6=4∨u % 6=5:=by omega
  rcases h6 with e6 | e6 | e6 | e6 | e6 | e6
  ·obtain⟨wd,hwd⟩:∃ wd,wd=Str.ofString "line":=⟨_,rfl⟩
   refine j25 q1 (v:=.str wd) (by rw[e6,hwd];rfl) ?_
   walk_at "v"
   refine j09 ?_
   rw[show decide (wd=Str.ofString "line")=true by rw[hwd];decide]
   walk_at "v"
   obtain⟨m,em,m1,m6⟩:∃ m:Nat,1+n % 6=m∧1≤m∧m≤6:=⟨(1+n % 6).toNat,by omega,by omega,by omega⟩
   rw[em]
   refine⟨_,rfl,by omega,by omega,fun acc hn _ _ _ _=>j5p (fun x=>-1000000000000000000≤x∧x≤1000000000000000000) (by omega) hn (fun i H3 Y hi e hY=>?_) fun xs H2 lx hx e2 ha=>?_⟩
   ·walk_at "v"
    exact⟨c,_,rfl,by omega,by omega,hc1,fun z H4 z0 z1 e4=>hY _ _ ⟨z0,z1⟩ e4⟩
   walk_at "v"
   refine jez ha (by omega) fun l3 ns H3 n3 pm pw q3 e3=>?_
   walk_at "v"
   refine j17 q3 fun t4 H4 n4 q4 e4=>?_
   walk_at "v"
   intro t5 H5 n5 q5 e5
   have pl:=pm.length_eq
   exact hq t5 wd t4 (.line ns) H5 q5 ⟨hwd,e5 _ _ q4,⟨by omega,by omega,pw,fun y hy=>hx y (pm.mem_iff.mp hy)⟩⟩ (e1.tr (e2.tr (e3.tr (e4.tr e5))))
  ·obtain⟨wd,hwd⟩:∃ wd,wd=Str.ofString "shelf":=⟨_,rfl⟩
   refine j25 q1 (v:=.str wd) (by rw[e6,hwd];rfl) ?_
   walk_at "v"
   refine j09 ?_
   rw[show decide (wd=Str.ofString "line")=false by rw[hwd];decide]
   walk_at "v"
   refine j09 ?_
   rw[show decide (wd=Str.ofString "shelf")=true by rw[hwd];decide]
   walk_at "v"
   refine⟨_,_,rfl,by omega,by omega,by omega,fun l2 ss H2 n2 q2 hN hl e2=>?_⟩
   walk_at "v"
   refine j17 q2 fun t4 H4 n4 q4 e4=>?_
   walk_at "v"
   intro t5 H5 n5 q5 e5
   exact hq t5 wd t4 (.shelf ss) H5 q5 ⟨hwd,e5 _ _ q4,hN⟩ (e1.tr (e2.tr (e4.tr e5)))
  ·obtain⟨wd,hwd⟩:∃ wd,wd=Str.ofString "hire":=⟨_,rfl⟩
   refine j25 q1 (v:=.str wd) (by rw[e6,hwd];rfl) ?_
   walk_at "v"
   refine j09 ?_
   rw[show decide (wd=Str.ofString "line")=false by rw[hwd];decide]
   walk_at "v"
   refine j09 ?_
   rw[show decide (wd=Str.ofString "shelf")=false by rw[hwd];decide]
   walk_at "v"
   refine j09 ?_
   rw[show decide (wd=Str.ofString "store")=false by rw[hwd];decide]
   walk_at "v"
   refine j09 ?_
   rw[show decide (wd=Str.ofString "ways")=false by rw[hwd];decide]
   walk_at "v"
   refine⟨c,3,rfl,by decide,by decide,hc1,fun z H2 z0 z1 e2=>?_⟩
   walk_at "v"
   intro t4 H4 n4 q4 e4
   walk_at "v"
   intro t5 H5 n5 q5 e5
   exact hq t5 wd t4 (.hire (max 1 z)) H5 q5 ⟨hwd,e5 _ _ q4,⟨by omega,by omega⟩⟩ (e1.tr (e2.tr (e4.tr e5)))
  ·obtain⟨wd,hwd⟩:∃ wd,wd=Str.ofString "ways":=⟨_,rfl⟩
   refine j25 q1 (v:=.str wd) (by rw[e6,hwd];rfl) ?_
   walk_at "v"
   refine j09 ?_
   rw[show decide (wd=Str.ofString "line")=false by rw[hwd];decide]
   walk_at "v"
   refine j09 ?_
   rw[show decide (wd=Str.ofString "shelf")=false by rw[hwd];decide]
   walk_at "v"
   refine j09 ?_
   rw[show decide (wd=Str.ofString "store")=false by rw[hwd];decide]
   walk_at "v"
   refine j09 ?_
   rw[show decide (wd=Str.ofString "ways")=true by rw[hwd];decide]
   walk_at "v"
   obtain⟨m,em,m1,m8⟩:∃ m:Nat,1+n % 8=m∧1≤m∧m≤8:=⟨(1+n % 8).toNat,by omega,by omega,by omega⟩
   rw[em]
   refine⟨c,3,rfl,by decide,by decide,hc1,fun z H2 z0 z1 e2=>?_⟩
   have b0:=Int.emod_nonneg (n / 8) (show (m:Int)≠0 by omega)
   have b1:=Int.emod_lt_of_pos (n / 8) (show (0:Int) < m by omega)
   walk_at "v"
   rw[em]
   walk_at "v"
   intro t4 H4 n4 q4 e4
   walk_at "v"
   intro t5 H5 n5 q5 e5
   exact hq t5 wd t4 (.ways m z (n / 8 % (m:Int))) H5 q5 ⟨hwd,e5 _ _ q4,⟨m1,m8,b0,b1,z0,z1⟩⟩ (e1.tr (e2.tr (e4.tr e5)))
  ·obtain⟨wd,hwd⟩:∃ wd,wd=Str.ofString "store":=⟨_,rfl⟩
   refine j25 q1 (v:=.str wd) (by rw[e6,hwd];rfl) ?_
   walk_at "v"
   refine j09 ?_
   rw[show decide (wd=Str.ofString "line")=false by rw[hwd];decide]
   walk_at "v"
   refine j09 ?_
   rw[show decide (wd=Str.ofString "shelf")=false by rw[hwd];decide]
   walk_at "v"
   refine j09 ?_
   rw[show decide (wd=Str.ofString "store")=true by rw[hwd];decide]
   walk_at "v"
   refine⟨_,_,rfl,by omega,by omega,by omega,fun l2 ss H2 n2 q2 hN hl e2=>?_⟩
   walk_at "v"
   refine j17 q2 fun t4 H4 n4 q4 e4=>?_
   walk_at "v"
   intro t5 H5 n5 q5 e5
   exact hq t5 wd t4 (.store ss) H5 q5 ⟨hwd,e5 _ _ q4,hN⟩ (e1.tr (e2.tr (e4.tr e5)))
  ·obtain⟨wd,hwd⟩:∃ wd,wd=Str.ofString "bags":=⟨_,rfl⟩
   refine j25 q1 (v:=.str wd) (by rw[e6,hwd];rfl) ?_
   walk_at "v"
   refine j09 ?_
   rw[show decide (wd=Str.ofString "line")=false by rw[hwd];decide]
   walk_at "v"
   refine j09 ?_
   rw[show decide (wd=Str.ofString "shelf")=false by rw[hwd];decide]
   walk_at "v"
   refine j09 ?_
   rw[show decide (wd=Str.ofString "store")=false by rw[hwd];decide]
   walk_at "v"
   refine j09 ?_
   rw[show decide (wd=Str.ofString "ways")=false by rw[hwd];decide]
   walk_at "v"
   refine⟨c,3,rfl,by decide,by decide,hc1,fun z H2 z0 z1 e2=>?_⟩
   walk_at "v"
   intro t4 H4 n4 q4 e4
   walk_at "v"
   intro t5 H5 n5 q5 e5
   exact hq t5 wd t4 (.bags (max 1 z)) H5 q5 ⟨hwd,e5 _ _ q4,⟨by omega,by omega⟩⟩ (e1.tr (e2.tr (e4.tr e5)))
theorem cut83 (cs:List Int):∃ ms:List Int,cutV (cs.map V.int) (some 2) (some 42)=ms.map V.int∧ms.length≤40∧∀ z∈ms,z∈cs:=by
 refine⟨(cs.drop (min 2 cs.length)).take (min 42 cs.length-min 2 cs.length),?_,?_,fun z hz=>List.mem_of_mem_drop (List.mem_of_mem_take hz)⟩
 ·unfold cutV
  rw[show (some (2:Int))=some ((2:Nat):Int) from rfl,show (some (42:Int))=some ((42:Nat):Int) from rfl,HT.sIx_nat,HT.sIx_nat,List.length_map,List.map_take,List.map_drop]
 ·rw[List.length_take]
  omega
structure F83 (a:Adr) (H:Hp) (g:G83) (wd:Str) (p o tq pw0:Addr) (v0:V) (wl:Addr) (wvs:List V) (ws:List W83):Prop where
 ga:GAt H g wd p
 oo:g.rs.at_ a H o
 pq:H tq=some (.tup [.ref pw0,v0])
 pw:g.rs.wo a H pw0
 pv:g.rs.st H v0
 wq:H wl=some (.lst wvs)
 wa:AllW H ws wvs
theorem F83.ext {a:Adr}{H H':Hp}{g:G83}{wd:Str}{p o tq pw0:Addr}{v0:V}{wl:Addr}{wvs:List V}{ws:List W83} (e:Ext H H') (h:F83 a H g wd p o tq pw0 v0 wl wvs ws):F83 a H' g wd p o tq pw0 v0 wl wvs ws :=
 ⟨h.ga.ext e,RS.ext e h.oo,e _ _ h.pq,RS.woE e h.pw,RS.stM (fun _ _ z=>e _ _ z) h.pv,e _ _ h.wq,h.wa.mono fun _ _ z=>e _ _ z⟩
theorem F83.but {a:Adr}{H H':Hp}{g:G83}{wd:Str}{p o tq pw0 r:Addr}{v0:V}{wl:Addr}{wvs:List V}{ws:List W83} (k:Big3 H r) (b:But r H H') (n:o≠r) (h:F83 a H g wd p o tq pw0 v0 wl wvs ws):F83 a H' g wd p o tq pw0 v0 wl wvs ws :=
 ⟨⟨h.ga.1,k.tup b h.ga.2.1,h.ga.2.2⟩,RS.butR k b n h.oo,k.tup b h.pq,RS.woB k b h.pw,RS.stM (fun _ _ z=>k.tup b z) h.pv,k.lst b h.wq,h.wa.mono fun _ _ z=>k.tup b z⟩
structure Fol (g:G83) (i:Nat) (s:RS):Prop where
 ok:s.ok i
 wo:∀ a H w,g.rs.wo a H w→s.wo a H w
 oW:∀ w,g.rs.okW w→s.okW w
 wd:s.word=g.word
theorem Fol.step {g:G83}{i:Nat}{s:RS}{w:W83} (h:Fol g i s) (hw:g.rs.okW w):Fol g (i+1) (s.step w):=⟨RS.okS h.ok (h.oW w hw),fun a H o k=>RS.step_w w (h.wo a H o k),fun x hx=>RS.step_W w (h.oW x hx),(RS.step_word s w).trans h.wd⟩
def sp_law (K:PySem.W.Frag):Sp:=fun vs H Q _=>∃ (p:Addr) (ns:List Int),vs=[.ref p]∧SqL K H p (ns.map V.int)∧ns.length≤63∧(∀ z∈ns,ib z≤1048576)∧∀ H',Q (.bl true) H'
theorem ok_law (T:Txt K mg a):FnOk P w K mg base (CXU P w) 14 a.f_z91 a.d_z91 ["_law_script"] (sp_law K):=by
 refine T.F_z91.okU j38 (fun vs H Q E h=>?_) (fun cdv A outer s H vs Q E hr h=>?_)
 ·obtain⟨p0,cs,rfl,hS,hl,hb,hq⟩:=h
  rfl
 ·obtain⟨p0,cs,rfl,hS,hl,hb,hq⟩:=h
  refine⟨_,(j02 (j8q (j0f (j78 T) (hr.mono (by decide)) (by rfl) T.m_z76 T.F_z76.kp T.b_z76 .nil j0d (j00 (pv 0) j01)) (ja7 rfl (j1z (j0w (i:=1) j38.nd rfl (by first | exact Or.inl rfl | exact Or.inr rfl)) (j1z (j0w (i:=2) j38.nd rfl (by first | exact Or.inl rfl | exact Or.inr rfl)) j79))))
   (j02 (j0z (i:=3) j38.nd rfl (by first | exact Or.inl rfl | exact Or.inr rfl) (j1u oSl (pv 0) (j27 j08) (j27 j08)))
   (j02 (j2i (i:=4) (["_law_k"]:List Str) (["_law_word","_law_start_here","_law_cells"]:List Str) [1,2,3] j38.nd rfl (Or.inl rfl) rfl ⟨rfl,by decide +kernel,by decide +kernel,by rfl,⟨⟨rfl,by first | exact Or.inl rfl | exact Or.inr rfl,by first | exact Or.inl rfl | exact Or.inr rfl⟩,⟨rfl,by first | exact Or.inl rfl | exact Or.inr rfl,by first | exact Or.inl rfl | exact Or.inr rfl⟩,⟨rfl,by first | exact Or.inl rfl | exact Or.inr rfl,by first | exact Or.inl rfl | exact Or.inr rfl⟩,trivial⟩⟩ (j1m rfl T.n_range (j00 (j07 j1w (by rfl) T.n_len PySem.boot_len (j00 (pv 3) j01)) j01)) (fun _ _ _ _=>⟨(j0w (i:=0) (by show ((["_law_k"]:List Str)++(["_law_word","_law_start_here","_law_cells"]:List Str)).Nodup;decide +kernel) rfl (by first | exact Or.inl rfl | exact Or.inr rfl)),(show PTs _ [] [] from trivial),(j0f (j8l T) (hr.mono (by decide)) (by rfl) T.m_z85 T.F_z85.kp T.b_z85 .nil j0d (j00 (pv 1) (j00 (pv 2) (j00 (j14 oIx (pv 3) (pv 0) (fun _ _=>rfl)) (j00 (j0p j1a (pv 0) j08) j01)))))⟩))
   (j02 (j0z (i:=5) j38.nd rfl (by first | exact Or.inl rfl | exact Or.inr rfl) (j0f (j44 T) (hr.mono (by decide)) (by rfl) T.m_z88 T.F_z88.kp T.b_z88 .nil j0d (j00 (pv 1) (j00 (pv 2) j01))))
   (j02 (j0z (i:=6) j38.nd rfl (by first | exact Or.inl rfl | exact Or.inr rfl) (j0f (j44 T) (hr.mono (by decide)) (by rfl) T.m_z88 T.F_z88.kp T.b_z88 .nil j0d (j00 (pv 1) (j00 (pv 2) j01))))
   (j02 (j0z (i:=7) j38.nd rfl (by first | exact Or.inl rfl | exact Or.inr rfl) (j0f (j2n T) (hr.mono (by decide)) (by rfl) T.m_z49 T.F_z49.kp T.b_z49 .nil j0d (j00 (pv 1) (j00 (pv 2) j01))))
   (j02 (j0u (PW.pt (j34 (j0s (ptT (j0f (j2x T) (hr.mono (by decide)) (by rfl) T.m_z82 T.F_z82.kp T.b_z82 .nil j0d (j00 (pv 1) (j00 (pv 2) (j00 (pv 5) (j00 (pv 7) j01))))) (fun _=>rfl))) (j1k (j0s (ptT (j0f (j2x T) (hr.mono (by decide)) (by rfl) T.m_z82 T.F_z82.kp T.b_z82 .nil j0d (j00 (pv 1) (j00 (pv 2) (j00 (pv 6) (j00 (j0f (j2n T) (hr.mono (by decide)) (by rfl) T.m_z49 T.F_z49.kp T.b_z49 .nil j0d (j00 (pv 1) (j00 (pv 2) j01))) j01))))) (fun _=>rfl)))))) (j03 (j0a j30)) j0c)
   (j02 (j0z (i:=8) j38.nd rfl (by first | exact Or.inl rfl | exact Or.inr rfl) (j0f (j5g T) (hr.mono (by decide)) (by rfl) T.m_z48 T.F_z48.kp T.b_z48 .nil j0d (j00 (pv 1) (j00 (pv 2) j01))))
   (j02 (j0z (i:=9) j38.nd rfl (by first | exact Or.inl rfl | exact Or.inr rfl) j08)
   (j02 (j0u (j0s (ptT (j0f (j43 T) (hr.mono (by decide)) (by rfl) T.m_z77 T.F_z77.kp T.b_z77 .nil j0d (j00 (pv 1) (j00 (pv 5) (j00 (pv 8) j01)))) (fun _=>rfl))) (j03 (j0a j30)) j0c)
   (j02 (jab PassesOwn.never rfl (j1m rfl T.n_range (j00 (j07 j1w (by rfl) T.n_len PySem.boot_len (j00 (pv 4) j01)) j01)) (j0w (i:=10) j38.nd rfl (by first | exact Or.inl rfl | exact Or.inr rfl)) (j02 (j0u (j0s (ptT (j0f (j8j T) (hr.mono (by decide)) (by rfl) T.m_z83 T.F_z83.kp T.b_z83 .nil j0d (j00 (pv 5) (j00 (j14 oIx (pv 7) j08 (fun _ _=>rfl)) (j00 (j14 oIx (pv 4) (pv 10) (fun _ _=>rfl)) j01)))) (fun _=>rfl))) (j03 (j0a j30)) j0c)
   (j02 (j1l (j0i (j0e (pv 8) T.cl_Both T.me_Both_pay (Nl.ok_Rule_pay T) (hr.mono (by decide)) T.b_z79 .nil j0d (j00 (j14 oIx (pv 4) (pv 10) (fun _ _=>rfl)) j01)) (j0i (j0e (pv 8) T.cl_Front T.me_Front_pay (Ns.ok_Rule_pay T) (hr.mono (by decide)) T.b_z79 .nil j0d (j00 (j14 oIx (pv 4) (pv 10) (fun _ _=>rfl)) j01)) (j0i (j0e (pv 8) T.cl_Buyer T.me_Buyer_pay (Nh.ok_Rule_pay T) (hr.mono (by decide)) T.b_z79 .nil j0d (j00 (j14 oIx (pv 4) (pv 10) (fun _ _=>rfl)) j01)) (j0i (j0e (pv 8) T.cl_Changer T.me_Changer_pay (Nw.ok_Rule_pay T) (hr.mono (by decide)) T.b_z79 .nil j0d (j00 (j14 oIx (pv 4) (pv 10) (fun _ _=>rfl)) j01)) (j0i (j0e (pv 8) T.cl_Keeper T.me_Keeper_pay (Nk.ok_Rule_pay T) (hr.mono (by decide)) T.b_z79 .nil j0d (j00 (j14 oIx (pv 4) (pv 10) (fun _ _=>rfl)) j01)) (j0e (pv 8) T.cl_Filler T.me_Filler_pay (Nb.ok_Rule_pay T) (hr.mono (by decide)) T.b_z79 .nil j0d (j00 (j14 oIx (pv 4) (pv 10) (fun _ _=>rfl)) j01))))))))
   (j02 (j0u (j0s (ptT (j0f (j43 T) (hr.mono (by decide)) (by rfl) T.m_z77 T.F_z77.kp T.b_z77 .nil j0d (j00 (pv 1) (j00 (pv 5) (j00 (pv 8) j01)))) (fun _=>rfl))) (j03 (j0a j30)) j0c)
   (j03 (j0u (j0g (oEq hr) (pv 10) j08 (j0m _)) (j03 (j0z (i:=9) j38.nd rfl (by first | exact Or.inl rfl | exact Or.inr rfl) (j0i (j0b (pv 5) T.cl_Both T.me_Both_paid (Nl.ok_Rule_paid T) (hr.mono (by decide)) T.b_z68 .nil j0d) (j0i (j0b (pv 5) T.cl_Front T.me_Front_paid (Ns.ok_Rule_paid T) (hr.mono (by decide)) T.b_z68 .nil j0d) (j0i (j0b (pv 5) T.cl_Buyer T.me_Buyer_paid (Nh.ok_Rule_paid T) (hr.mono (by decide)) T.b_z68 .nil j0d) (j0i (j0b (pv 5) T.cl_Changer T.me_Changer_paid (Nw.ok_Rule_paid T) (hr.mono (by decide)) T.b_z68 .nil j0d) (j0i (j0b (pv 5) T.cl_Keeper T.me_Keeper_paid (Nk.ok_Rule_paid T) (hr.mono (by decide)) T.b_z68 .nil j0d) (j0b (pv 5) T.cl_Filler T.me_Filler_paid (Nb.ok_Rule_paid T) (hr.mono (by decide)) T.b_z68 .nil j0d)))))))) j0c))))))
   (j02 (j0u (j0s (ptT (j0f (j2x T) (hr.mono (by decide)) (by rfl) T.m_z82 T.F_z82.kp T.b_z82 .nil j0d (j00 (pv 1) (j00 (pv 2) (j00 (pv 6) (j00 (pv 7) j01))))) (fun _=>rfl))) (j03 (j0a j30)) j0c)
   (j03 (j0a (pe_or (j1n (oEq hr) (pv 4) (j35 j01) (j0m _)) (j1y (j0f (j0v T) (hr.mono (by decide)) (by rfl) T.m_z84 T.F_z84.kp T.b_z84 .nil j0d (j00 (j0i (j0e (pv 6) T.cl_Both T.me_Both_pay (Nl.ok_Rule_pay T) (hr.mono (by decide)) T.b_z79 .nil j0d (j00 (j14 oIx (pv 4) j08 (fun _ _=>rfl)) j01)) (j0i (j0e (pv 6) T.cl_Front T.me_Front_pay (Ns.ok_Rule_pay T) (hr.mono (by decide)) T.b_z79 .nil j0d (j00 (j14 oIx (pv 4) j08 (fun _ _=>rfl)) j01)) (j0i (j0e (pv 6) T.cl_Buyer T.me_Buyer_pay (Nh.ok_Rule_pay T) (hr.mono (by decide)) T.b_z79 .nil j0d (j00 (j14 oIx (pv 4) j08 (fun _ _=>rfl)) j01)) (j0i (j0e (pv 6) T.cl_Changer T.me_Changer_pay (Nw.ok_Rule_pay T) (hr.mono (by decide)) T.b_z79 .nil j0d (j00 (j14 oIx (pv 4) j08 (fun _ _=>rfl)) j01)) (j0i (j0e (pv 6) T.cl_Keeper T.me_Keeper_pay (Nk.ok_Rule_pay T) (hr.mono (by decide)) T.b_z79 .nil j0d (j00 (j14 oIx (pv 4) j08 (fun _ _=>rfl)) j01)) (j0e (pv 6) T.cl_Filler T.me_Filler_pay (Nb.ok_Rule_pay T) (hr.mono (by decide)) T.b_z79 .nil j0d (j00 (j14 oIx (pv 4) j08 (fun _ _=>rfl)) j01))))))) (j00 (pv 9) j01))))))))))))))))))),?_⟩
  walk_at "v"
  refine⟨p0,cs,rfl,hS,hb,fun t0 wd p g H1 q0 hg1 e1=>?_⟩
  walk_at "v"
  refine r_slQ (e1.seqL hS) fun cl H2 n2 q2 e2=>?_
  obtain⟨ms,ems,lms,hms⟩:=cut83 cs
  rw[ems] at q2
  walk_at "v"
  refine j3n q2 ?_
  rw[List.length_map]
  walk_at "v"
  refine⟨_,rfl,by omega,by omega,fun wl hn _ _ _ _=>j2j (by omega) hn (fun j ys H3=>∃ ws:List W83,AllW H3 ws ys∧ws.length=j∧∀ w∈ws,g.rs.okW w) ⟨[],trivial,rfl,fun w h=>by cases h⟩ (fun _ _ _ _ k ⟨ws,h1,h2⟩=>⟨ws,h1.mono fun _ _ z=>k _ _ z rfl,h2⟩) (fun j ys H' _ ⟨ws,h1,h2,_⟩=>by rw[h1.len];omega) ?_ ?_⟩
  ·rintro j ys H3 hj e ⟨ws,h1,h2,h3⟩ Y N hY hN
   rw[show ((0:Int)+(j:Nat))=(j:Nat) by omega]
   walk_at "v"
   refine j25 (e _ _ q2) (j21 (by omega) (by omega)) ?_
   walk_at "v"
   refine⟨g,wd,p,_,_,rfl,(hg1.ext e2).ext e,hb _ (hms _ (by rw[List.getD_eq_getElem?_getD,List.getElem?_eq_getElem (show ((j:Int)).toNat < ms.length by omega)];exact List.getElem_mem _)),by omega,by omega,fun v ww H4 a4 o4 e4=>?_⟩
   exact hY _ _ e4 ⟨ws++[ww],AllW.snoc a4 (h1.mono fun _ _ z=>e4 _ _ z),by simp[h2],fun x hx=>(List.mem_append.mp hx).elim (h3 x) fun z=>by rw[List.mem_singleton.mp z];exact o4⟩
  rintro wvs H3 e3 wq3 ⟨ws,wa3,lw,okw⟩
  have lwv:=wa3.len
  have hg3:=(hg1.ext e2).ext e3
  walk_at "v"
  refine⟨g,wd,p,rfl,hg3,fun r H4 n4 B4 e4=>?_⟩
  have hg4:=hg3.ext e4
  walk_at "v"
  refine⟨g,wd,p,rfl,hg4,fun o H5 n5 B5 e5=>?_⟩
  have hg5:=hg4.ext e5
  walk_at "v"
  refine⟨g,wd,p,rfl,hg5,fun tq pw0 v0 H6 q6 w6 s6 e6=>?_⟩
  have hg6:=hg5.ext e6
  have B46:=RS.ext (e5.tr e6) B4
  have B56:=RS.ext e6 B5
  walk_at "v"
  refine⟨g,wd,p,r,tq,pw0,v0,rfl,hg6,B46,q6,w6,s6,fun H7 e7=>?_⟩
  walk_at "v"
  refine⟨g,wd,p,rfl,hg6.ext e7,fun tq' pw0' v0' H8 q8 w8 s8 e8=>?_⟩
  have x8:=e7.tr e8
  walk_at "v"
  refine⟨g,wd,p,o,tq',pw0',v0',rfl,hg6.ext x8,RS.ext x8 B56,q8,w8,s8,fun H9 e9=>?_⟩
  have x9:=x8.tr e9
  walk_at "v"
  refine⟨g,wd,p,rfl,hg6.ext x9,fun tw HA nA BA eA=>?_⟩
  have xA:=x9.tr eA
  have nro:r≠o:=fun z=>by obtain⟨C,dx,fs,k1,_⟩:=RS.big B4;rw[z,n5] at k1;cases k1
  have nrt:r≠tw:=fun z=>by obtain⟨C,dx,fs,k1,_⟩:=RS.big (RS.ext x9 B46);rw[z,nA] at k1;cases k1
  have not_:o≠tw:=fun z=>by obtain⟨C,dx,fs,k1,_⟩:=RS.big (RS.ext x9 B56);rw[z,nA] at k1;cases k1
  have FA:F83 a HA g wd p o tq pw0 v0 wl wvs ws:=⟨hg6.ext xA,RS.ext xA B56,xA _ _ q6,RS.woE xA w6,RS.stM (fun _ _ z=>xA _ _ z) s6,(e4.tr (e5.tr (e6.tr xA))) _ _ wq3,wa3.mono fun _ _ z=>(e4.tr (e5.tr (e6.tr xA))) _ _ z⟩
  walk_at "v"
  refine⟨g.rs,wd,r,tw,rfl,hg1.1.trans (G83.rs_word g).symm,RS.ext xA B46,BA,fun HB eB=>?_⟩
  walk_at "v"
  refine j3n (FA.ext eB).wq ?_
  walk_at "v"
  refine⟨_,rfl,by omega,by omega,j7a (fun i σ HC=>∃ (u:Option V) (s:RS) (f:Int),σ=[some (.ref p0),some (.str wd),some (.ref p),some (.ref cl),some (.ref wl),some (.ref r),some (.ref o),some (.ref tq),some (.ref tw),some (.int f),u]∧F83 a HC g wd p o tq pw0 v0 wl wvs ws∧s.at_ a HC r∧s.at_ a HC tw∧Fol g i s∧(i=0→s=g.rs)∧∀ w,ws[0]?=some w→0 < i→f=(g.rs.step w).z) ⟨none,g.rs,0,rfl,FA.ext eB,RS.ext (xA.tr eB) B46,RS.ext eB BA,⟨G83.rs_ok hg1.2.2,fun _ _ _ h=>h,fun _ h=>h,G83.rs_word g⟩,fun _=>rfl,fun w _ h=>absurd h (by omega)⟩ ?_ ?_⟩
  ·rintro i σ HC hi ⟨u,s,f,rfl,FC,rC,tC,fo,f0,f1⟩
   have hi':i < ws.length:=by omega
   obtain⟨v,ev,av⟩:=FC.wa.get (List.getElem?_eq_getElem hi')
   have okx:=okw _ (List.getElem_mem hi')
   have hwi:ws[i]?=some ws[i]:=List.getElem?_eq_getElem hi'
   generalize ws[i]=ww at *
   have hat:atI wvs ((0:Int)+(i:Nat))=some v:=j32 (by omega) (by rw[show ((0:Int)+(i:Nat)).toNat=i by omega];exact ev)
   walk_at "v"
   refine j1d FC.pq rfl ?_
   walk_at "v"
   refine j25 FC.wq hat ?_
   walk_at "v"
   refine⟨s,i,r,pw0,v,ww,rfl,rC,fo.ok,by omega,fo.wo _ _ _ FC.pw,av,fo.oW _ okx,fun HD rD bD=>?_⟩
   have bgC:=RS.big rC
   have FD:=FC.but bgC bD nro.symm
   have tD:=RS.butR bgC bD nrt.symm tC
   have avD:ww.at_ HD v:=W83.mono (fun _ _ z=>bgC.tup bD z) av
   have foS:=fo.step okx
   have okww:=fo.oW _ okx
   have okS:=fo.ok
   have bgD:=RS.big tD
   have fin:∀ HE,(s.step ww).at_ a HE tw→But tw HD HE→F83 a HE g wd p o tq pw0 v0 wl wvs ws∧(s.step ww).at_ a HE r:=fun HE _ bE=>⟨FD.but bgD bE not_,RS.butR bgD bE nrt rD⟩
   have fz:i=0→∀ w,ws[0]?=some w→(s.step ww).z=(g.rs.step w).z:=fun z w h=>by subst z;rw[hwi] at h;cases h;rw[f0 rfl]
   cases s with
   | line m ns z =>
    obtain⟨x,rfl,w0,w1⟩:=okww
    obtain rfl:v=.int x:=avD
    obtain⟨gd,rfl⟩:=okS
    have tD':=tD
    obtain⟨dx0,wo0,dw0,sp0,h10,h20,h30⟩:=Nl.LineAt.ex tD'
    walk_at "v"
    refine j0j ?_
    walk_at "v"
    refine j25 FD.wq hat ?_
    walk_at "v"
    refine⟨tw,ns,z,x,rfl,tD,gd,w0,w1,fun HE CE bE=>?_⟩
    have tE:RS.at_ a HE tw (.line ns.length (Nl.goB ns x) (z+Nl.ways ns (Nl.goB ns x))):=CE
    obtain⟨FE,rE⟩:=fin HE tE bE
    walk_at "v"
    refine⟨_,wd,r,tw,rfl,hg1.1.trans foS.wd.symm,rE,tE,fun HG eG=>?_⟩
    have FG:=FE.ext eG
    have rG:=RS.ext eG rE
    have tG:=RS.ext eG tE
    walk_at "v"
    refine iteD (fun c=>?_) (fun c=>?_)
    ·have rG':RS.at_ a HG r (.line ns.length (Nl.goB ns x) (z+Nl.ways ns (Nl.goB ns x))):=rG
     obtain⟨dx8,wo8,dw8,sp8,h18,h28,h38⟩:=Nl.LineAt.ex rG'
     walk_at "v"
     refine j0j ?_
     walk_at "v"
     refine⟨r,_,_,rfl,rG',?_⟩
     walk_at "v"
     exact⟨_,_,_,rfl,FG,rG,tG,foS,fun z=>absurd z (by omega),fun w' hw' _=>fz (by omega) w' hw'⟩
    ·walk_at "v"
     exact⟨_,_,f,rfl,FG,rG,tG,foS,fun z=>absurd z (by omega),fun w' hw' _=>f1 w' hw' (by omega)⟩
   | shelf ts ss z =>
    obtain⟨x,rfl,hx⟩:=okww
    obtain rfl:v=.str x:=avD
    obtain⟨hN,hpm⟩:=okS
    have tD':=tD
    obtain⟨dx0,wo0,dw0,sp0,tp0,h10,h20,h30,h40⟩:=Ns.ShelfAt.ex tD'
    walk_at "v"
    refine j04 (j0j ?_)
    walk_at "v"
    refine j25 FD.wq hat ?_
    walk_at "v"
    refine⟨tw,ss,ts,z,x,rfl,tD,hN,hpm,hpm.mem_iff.mp hx,fun HE CE bE=>?_⟩
    have tE:RS.at_ a HE tw (.shelf ts (frt x ss) (z+((ss.idxOf x:Nat)+1))):=CE
    obtain⟨FE,rE⟩:=fin HE tE bE
    walk_at "v"
    refine⟨_,wd,r,tw,rfl,hg1.1.trans foS.wd.symm,rE,tE,fun HG eG=>?_⟩
    have FG:=FE.ext eG
    have rG:=RS.ext eG rE
    have tG:=RS.ext eG tE
    walk_at "v"
    refine iteD (fun c=>?_) (fun c=>?_)
    ·have rG':RS.at_ a HG r (.shelf ts (frt x ss) (z+((ss.idxOf x:Nat)+1))):=rG
     obtain⟨dx8,wo8,dw8,sp8,tp8,h18,h28,h38,h48⟩:=Ns.ShelfAt.ex rG'
     walk_at "v"
     refine j04 (j0j ?_)
     walk_at "v"
     refine⟨r,_,_,_,rfl,rG',?_⟩
     walk_at "v"
     exact⟨_,_,_,rfl,FG,rG,tG,foS,fun z=>absurd z (by omega),fun w' hw' _=>fz (by omega) w' hw'⟩
    ·walk_at "v"
     exact⟨_,_,f,rfl,FG,rG,tG,foS,fun z=>absurd z (by omega),fun w' hw' _=>f1 w' hw' (by omega)⟩
   | hire W st z =>
    obtain⟨x,rfl,w0,w1⟩:=okww
    obtain rfl:v=.int x:=avD
    obtain⟨W1,W2,hst⟩:=okS
    have tD':=tD
    obtain⟨dx0,wo0,dw0,h10,h20⟩:=Nh.BuyAt.ex tD'
    walk_at "v"
    refine j04 (j04 (j0j ?_))
    walk_at "v"
    refine j25 FD.wq hat ?_
    walk_at "v"
    refine⟨tw,W,st,z,x,rfl,tD,w0,w1,fun HE CE bE=>?_⟩
    have tE:RS.at_ a HE tw (.hire W (j8e W st z x) (z+jcz W st z x)):=CE
    obtain⟨FE,rE⟩:=fin HE tE bE
    walk_at "v"
    refine⟨_,wd,r,tw,rfl,hg1.1.trans foS.wd.symm,rE,tE,fun HG eG=>?_⟩
    have FG:=FE.ext eG
    have rG:=RS.ext eG rE
    have tG:=RS.ext eG tE
    walk_at "v"
    refine iteD (fun c=>?_) (fun c=>?_)
    ·have rG':RS.at_ a HG r (.hire W (j8e W st z x) (z+jcz W st z x)):=rG
     obtain⟨dx8,wo8,dw8,h18,h28⟩:=Nh.BuyAt.ex rG'
     walk_at "v"
     refine j04 (j04 (j0j ?_))
     walk_at "v"
     refine⟨r,_,_,_,rfl,rG',?_⟩
     walk_at "v"
     exact⟨_,_,_,rfl,FG,rG,tG,foS,fun z=>absurd z (by omega),fun w' hw' _=>fz (by omega) w' hw'⟩
    ·walk_at "v"
     exact⟨_,_,f,rfl,FG,rG,tG,foS,fun z=>absurd z (by omega),fun w' hw' _=>f1 w' hw' (by omega)⟩
   | ways n t ns h z =>
    obtain⟨cs,rfl,hcl,hcs⟩:=okww
    obtain⟨cp,rfl,hcp⟩:=avD
    obtain⟨wk,rfl⟩:=okS
    have tD':=tD
    obtain⟨dx0,wo0,dw0,q0,h10,h20,h30⟩:=Nw.WaysAt.ex tD'
    walk_at "v"
    refine j04 (j04 (j04 (j0j ?_)))
    walk_at "v"
    refine j25 FD.wq hat ?_
    walk_at "v"
    refine⟨tw,cp,ns,cs,h,t,z,rfl,tD,hcp,wk,⟨hcl,hcs⟩,fun HE CE bE=>?_⟩
    have tE:RS.at_ a HE tw (.ways ns.length t (Nw.upW ns cs t) (Nw.goW ns cs t h) (z+Nw.prc cs h (Nw.goW ns cs t h) t)):=CE
    obtain⟨FE,rE⟩:=fin HE tE bE
    walk_at "v"
    refine⟨_,wd,r,tw,rfl,hg1.1.trans foS.wd.symm,rE,tE,fun HG eG=>?_⟩
    have FG:=FE.ext eG
    have rG:=RS.ext eG rE
    have tG:=RS.ext eG tE
    walk_at "v"
    refine iteD (fun c=>?_) (fun c=>?_)
    ·have rG':RS.at_ a HG r (.ways ns.length t (Nw.upW ns cs t) (Nw.goW ns cs t h) (z+Nw.prc cs h (Nw.goW ns cs t h) t)):=rG
     obtain⟨dx8,wo8,dw8,q8,h18,h28,h38⟩:=Nw.WaysAt.ex rG'
     walk_at "v"
     refine j04 (j04 (j04 (j0j ?_)))
     walk_at "v"
     refine⟨r,_,_,_,_,rfl,rG',?_⟩
     walk_at "v"
     exact⟨_,_,_,rfl,FG,rG,tG,foS,fun z=>absurd z (by omega),fun w' hw' _=>fz (by omega) w' hw'⟩
    ·walk_at "v"
     exact⟨_,_,f,rfl,FG,rG,tG,foS,fun z=>absurd z (by omega),fun w' hw' _=>f1 w' hw' (by omega)⟩
   | store m row z =>
    obtain⟨x,rfl,hx⟩:=okww
    obtain rfl:v=.str x:=avD
    obtain⟨hN,rfl⟩:=okS
    have tD':=tD
    obtain⟨dx0,wo0,dw0,sp0,q0,ss0,kk0⟩:=Nk.KeepAt.ex tD'
    have h10:=kk0.hr
    have h20:=kk0.hw
    walk_at "v"
    refine j04 (j04 (j04 (j04 (j0j ?_))))
    walk_at "v"
    refine j25 FD.wq hat ?_
    walk_at "v"
    refine⟨tw,row,z,x,rfl,tD,hN,hx,fun HE CE bE=>?_⟩
    have tE:RS.at_ a HE tw (.store row.length (Nk.beh x row) (z+Nk.cst x row)):=CE
    obtain⟨FE,rE⟩:=fin HE tE bE
    walk_at "v"
    refine⟨_,wd,r,tw,rfl,hg1.1.trans foS.wd.symm,rE,tE,fun HG eG=>?_⟩
    have FG:=FE.ext eG
    have rG:=RS.ext eG rE
    have tG:=RS.ext eG tE
    walk_at "v"
    refine iteD (fun c=>?_) (fun c=>?_)
    ·have rG':RS.at_ a HG r (.store row.length (Nk.beh x row) (z+Nk.cst x row)):=rG
     obtain⟨dx8,wo8,dw8,sp8,q8,ss8,kk8⟩:=Nk.KeepAt.ex rG'
     have h18:=kk8.hr
     have h28:=kk8.hw
     walk_at "v"
     refine j04 (j04 (j04 (j04 (j0j ?_))))
     walk_at "v"
     refine⟨r,_,_,rfl,rG',?_⟩
     walk_at "v"
     exact⟨_,_,_,rfl,FG,rG,tG,foS,fun z=>absurd z (by omega),fun w' hw' _=>fz (by omega) w' hw'⟩
    ·walk_at "v"
     exact⟨_,_,f,rfl,FG,rG,tG,foS,fun z=>absurd z (by omega),fun w' hw' _=>f1 w' hw' (by omega)⟩
   | bags R ps z =>
    obtain⟨x,rfl,w0,w1⟩:=okww
    obtain rfl:v=.int x:=avD
    obtain⟨R1,R2,hps,hpl⟩:=okS
    have tD':=tD
    obtain⟨ss0,B0,pm0,pw0⟩:=tD'
    obtain⟨dx0,wo0,dw0,sp0,q0,h10,h20,h30,h40⟩:=Nb.BagAt.ex B0
    walk_at "v"
    refine j04 (j04 (j04 (j04 (j04 ?_))))
    walk_at "v"
    refine j25 FD.wq hat ?_
    walk_at "v"
    refine⟨tw,R,z,x,ps,ss0,rfl,B0,w0,w1,by omega,fun ss5 q5 HE nq5 pm5 pw5 CE bE=>?_⟩
    have tE:RS.at_ a HE tw (.bags R (Nb.beh ps x R) (z+(((Nb.beh ps x R).length:Int)-ps.length))):=⟨ss5,by rw[pm0.length_eq] at CE;exact CE.at_,pm5,pw5⟩
    obtain⟨FE,rE⟩:=fin HE tE bE
    walk_at "v"
    refine⟨_,wd,r,tw,rfl,hg1.1.trans foS.wd.symm,rE,tE,fun HG eG=>?_⟩
    have FG:=FE.ext eG
    have rG:=RS.ext eG rE
    have tG:=RS.ext eG tE
    walk_at "v"
    refine iteD (fun c=>?_) (fun c=>?_)
    ·have rG':RS.at_ a HG r (.bags R (Nb.beh ps x R) (z+(((Nb.beh ps x R).length:Int)-ps.length))):=rG
     obtain⟨ss8,B8,pm8,pw8⟩:=rG'
     obtain⟨dx8,wo8,dw8,sp8,q8,h18,h28,h38,h48⟩:=Nb.BagAt.ex B8
     walk_at "v"
     refine j04 (j04 (j04 (j04 (j04 ?_))))
     walk_at "v"
     refine⟨r,_,_,_,_,rfl,B8,?_⟩
     walk_at "v"
     exact⟨_,_,_,rfl,FG,rG,tG,foS,fun z=>absurd z (by omega),fun w' hw' _=>fz (by omega) w' hw'⟩
    ·walk_at "v"
     exact⟨_,_,f,rfl,FG,rG,tG,foS,fun z=>absurd z (by omega),fun w' hw' _=>f1 w' hw' (by omega)⟩
  ·rintro σ HC ⟨u,s,f,rfl,FC,rC,tC,fo,f0,f1⟩
   rw[lwv] at fo f0 f1
   walk_at "v"
   refine⟨g,wd,p,o,tq,pw0,v0,rfl,FC.ga,FC.oo,FC.pq,FC.pw,FC.pv,fun HD eD=>?_⟩
   have FD:=FC.ext eD
   walk_at "v"
   intro l1 HE nE qE eE
   have FE:=FD.ext eE
   obtain⟨ok1,ok2⟩:=jf9 hg1.2.2 okw
   walk_at "v"
   refine jee (Rep.lstI FE.wq FE.wa.rep) (Rep.lstI qE RepL.nil) ok1 rfl (by show D.depthL (ws.map W83.d)+1≤20;omega) ?_
   rw[jd1]
   walk_at "v"
   cases ws with
   | nil =>
    walk_at "v"
    exact hq HE
   | cons ww ws =>
    have okx:=okw ww List.mem_cons_self
    obtain⟨v,ev,av⟩:=FE.wa.get (i:=0) (w:=ww) rfl
    have hat:atI wvs 0=some v:=j32 (by omega) ev
    have hf:=f1 ww rfl (by simp)
    have oE:=FE.oo
    have hok:=G83.rs_ok hg1.2.2
    have hz:=(G83.rs_f g).2.2
    walk_at "v"
    generalize hs:g.rs=s' at *
    cases s' with
    | line m ns z =>
     obtain⟨x,rfl,w0,w1⟩:=okx
     obtain rfl:v=.int x:=av
     obtain⟨gd,rfl⟩:=hok
     have oE':=oE
     obtain⟨dx0,wo0,dw0,sp0,h10,h20,h30⟩:=Nl.LineAt.ex oE'
     walk_at "v"
     refine j0j ?_
     walk_at "v"
     refine j25 FE.wq hat ?_
     walk_at "v"
     refine⟨o,ns,z,x,rfl,oE,gd,w0,w1,fun HF CF bF=>?_⟩
     obtain rfl:z=0:=hz
     rw[hf]
     walk_at "v"
     refine j0h (d:=.int _) .intI ?_ rfl rfl fun HG _=>hq HG
     show Rep _ _ (V.int (0+(Nl.ways ns (Nl.goB ns x))))
     rw[Int.zero_add]
     exact Rep.intI
    | shelf ts ss z =>
     obtain⟨x,rfl,hx⟩:=okx
     obtain rfl:v=.str x:=av
     obtain⟨hN,hpm⟩:=hok
     have oE':=oE
     obtain⟨dx0,wo0,dw0,sp0,tp0,h10,h20,h30,h40⟩:=Ns.ShelfAt.ex oE'
     walk_at "v"
     refine j04 (j0j ?_)
     walk_at "v"
     refine j25 FE.wq hat ?_
     walk_at "v"
     refine⟨o,ss,ts,z,x,rfl,oE,hN,hpm,hpm.mem_iff.mp hx,fun HF CF bF=>?_⟩
     obtain rfl:z=0:=hz
     rw[hf]
     walk_at "v"
     refine j0h (d:=.int _) .intI ?_ rfl rfl fun HG _=>hq HG
     show Rep _ _ (V.int (0+(((ss.idxOf x:Nat):Int)+1)))
     rw[Int.zero_add]
     exact Rep.intI
    | hire W st z =>
     obtain⟨x,rfl,w0,w1⟩:=okx
     obtain rfl:v=.int x:=av
     obtain⟨W1,W2,hst⟩:=hok
     have oE':=oE
     obtain⟨dx0,wo0,dw0,h10,h20⟩:=Nh.BuyAt.ex oE'
     walk_at "v"
     refine j04 (j04 (j0j ?_))
     walk_at "v"
     refine j25 FE.wq hat ?_
     walk_at "v"
     refine⟨o,W,st,z,x,rfl,oE,w0,w1,fun HF CF bF=>?_⟩
     obtain rfl:z=0:=hz
     rw[hf]
     walk_at "v"
     refine j0h (d:=.int _) .intI ?_ rfl rfl fun HG _=>hq HG
     show Rep _ _ (V.int (0+(jcz W st 0 x)))
     rw[Int.zero_add]
     exact Rep.intI
    | ways n t ns h z =>
     obtain⟨cs,rfl,hcl,hcs⟩:=okx
     obtain⟨cp,rfl,hcp⟩:=av
     obtain⟨wk,rfl⟩:=hok
     have oE':=oE
     obtain⟨dx0,wo0,dw0,q0,h10,h20,h30⟩:=Nw.WaysAt.ex oE'
     walk_at "v"
     refine j04 (j04 (j04 (j0j ?_)))
     walk_at "v"
     refine j25 FE.wq hat ?_
     walk_at "v"
     refine⟨o,cp,ns,cs,h,t,z,rfl,oE,hcp,wk,⟨hcl,hcs⟩,fun HF CF bF=>?_⟩
     obtain rfl:z=0:=hz
     rw[hf]
     walk_at "v"
     refine j0h (d:=.int _) .intI ?_ rfl rfl fun HG _=>hq HG
     show Rep _ _ (V.int (0+(Nw.prc cs h (Nw.goW ns cs t h) t)))
     rw[Int.zero_add]
     exact Rep.intI
    | store m row z =>
     obtain⟨x,rfl,hx⟩:=okx
     obtain rfl:v=.str x:=av
     obtain⟨hN,rfl⟩:=hok
     have oE':=oE
     obtain⟨dx0,wo0,dw0,sp0,q0,ss0,kk0⟩:=Nk.KeepAt.ex oE'
     have h10:=kk0.hr
     have h20:=kk0.hw
     walk_at "v"
     refine j04 (j04 (j04 (j04 (j0j ?_))))
     walk_at "v"
     refine j25 FE.wq hat ?_
     walk_at "v"
     refine⟨o,row,z,x,rfl,oE,hN,hx,fun HF CF bF=>?_⟩
     obtain rfl:z=0:=hz
     rw[hf]
     walk_at "v"
     refine j0h (d:=.int _) .intI ?_ rfl rfl fun HG _=>hq HG
     show Rep _ _ (V.int (0+(Nk.cst x row)))
     rw[Int.zero_add]
     exact Rep.intI
    | bags R ps z =>
     obtain⟨x,rfl,w0,w1⟩:=okx
     obtain rfl:v=.int x:=av
     obtain⟨R1,R2,hps,hpl⟩:=hok
     have oE':=oE
     obtain⟨ss0,B0,pm0,pw0⟩:=oE'
     obtain⟨dx0,wo0,dw0,sp0,q0,h10,h20,h30,h40⟩:=Nb.BagAt.ex B0
     walk_at "v"
     refine j04 (j04 (j04 (j04 (j04 ?_))))
     walk_at "v"
     refine j25 FE.wq hat ?_
     walk_at "v"
     refine⟨o,R,z,x,ps,ss0,rfl,B0,w0,w1,by omega,fun ss5 q5 HF nq5 pm5 pw5 CF bF=>?_⟩
     obtain rfl:z=0:=hz
     rw[hf]
     walk_at "v"
     refine j0h (d:=.int _) .intI ?_ rfl rfl fun HG _=>hq HG
     show Rep _ _ (V.int (0+(((Nb.beh ps x R).length:Int)-ps.length)))
     rw[Int.zero_add,← pm0.length_eq]
     exact Rep.intI
end
end Q
theorem PySem.Challenge.cw_lateknow_k83_rules_and_worlds_holds : PySem.Challenge.rw_lateknow_k83_rules_and_worlds.Holds :=
 PySem.Challenge.cw_lateknow_k83_rules_and_worlds_pre (fun K=>Q.sp_law K) (fun K H a ns hl hb hS=>⟨a,ns,rfl,hS,hl,hb,fun _=>rfl⟩) (fun w K mg a base T=>Q.ok_law T)
