import PyProof.Rows.All
import Wide.All
import OpenK.AllK
import Wide.FinOn
import Lean
import PyProof.EqAt
import PyProof.EqKinds
import PyProof.TupleCall
import PyProof.ExcClass3
import PyProof.InstStoreFacts
import PyProof.RulesAs
import PyProof.NsDelKeeps
import PyProof.ExcArgsOwn
import PyProof.ExcAttrAll.ValueError
import PyProof.ExcBaseAll.ValueError
import PySem.Challenge.RW_lateknow_k65_too_great
set_option Elab.async false
set_option linter.all false
set_option maxRecDepth 100000
set_option maxHeartbeats 4000000
set_option Elab.async false
set_option linter.all false
set_option maxRecDepth 100000
namespace L2
open PySem PySem.Spec PyProof.Rows
abbrev Key:=Sum Int Str
def jfg:Key→Value→Bool
 | .inl k,v=>Value.isInt k v
 | .inr x,v=>Value.isStrOf x v
def keyH (w:World):Key→Int
 | .inl k=>hashInt k
 | .inr x=>hashStr w x
theorem j0i:∀ {k:Key}{v:Value},jfg k v=true→(∃ i t,k=Sum.inl i∧v=Value.int i t)∨(∃ x t,k=Sum.inr x∧v=Value.str x t)
 | .inl i,v,h=>by
  obtain⟨t,e⟩:=Value.isInt_shape (k:=i) (v:=v) h
  exact .inl ⟨i,t,rfl,e⟩
 | .inr x,v,h=>by
  obtain⟨t,e⟩:=Value.isStrOf_shape (x:=x) (v:=v) h
  exact .inr ⟨x,t,rfl,e⟩
theorem jaa (i:Int) (t:Tok):jfg (.inl i) (.int i t)=true:=by simp[jfg,Value.isInt]
theorem jab (x:Str) (t:Tok):jfg (.inr x) (.str x t)=true:=by simp[jfg,Value.isStrOf]
theorem key_ll (a b:Int):decide ((Sum.inl a:Key)=Sum.inl b)=(a == b):=by
 by_cases e:a=b
 ·subst e;simp
 ·have h:¬ (Sum.inl a:Key)=Sum.inl b:=fun q=>e (Sum.inl.inj q)
  rw[decide_eq_false h]
  exact (beq_eq_false_iff_ne.mpr e).symm
theorem key_rr (a b:Str):decide ((Sum.inr a:Key)=Sum.inr b)=decide (a=b):=by
 by_cases e:a=b
 ·subst e;simp
 ·have h:¬ (Sum.inr a:Key)=Sum.inr b:=fun q=>e (Sum.inr.inj q)
  rw[decide_eq_false h,decide_eq_false e]
theorem key_lr (a:Int) (b:Str):decide ((Sum.inl a:Key)=Sum.inr b)=false:=decide_eq_false (fun q=>nomatch q)
theorem key_rl (a:Str) (b:Int):decide ((Sum.inr a:Key)=Sum.inl b)=false:=decide_eq_false (fun q=>nomatch q)
def j0r (prog:Program) (w:World):PySem.KeyKind prog w Key where
 is:=jfg
 hash:=keyH w
 inj:=fun v a b ha hb=>by
  rcases j0i ha with⟨i,t,rfl,rfl⟩ | ⟨x,t,rfl,rfl⟩
  ·rcases j0i hb with⟨j,u,rfl,e⟩ | ⟨y,u,rfl,e⟩
   ·injection e with e1 _;rw[e1]
   ·exact nomatch e
  ·rcases j0i hb with⟨j,u,rfl,e⟩ | ⟨y,u,rfl,e⟩
   ·exact nomatch e
   ·injection e with e1 _;rw[e1]
 byValue:=fun k v h=>by
  rcases j0i h with⟨i,t,rfl,rfl⟩ | ⟨x,t,rfl,rfl⟩ <;> rfl
 pyHash:=fun hv h=>by
  rcases j0i hv with⟨i,t,rfl,rfl⟩ | ⟨x,t,rfl,rfl⟩
  ·exact wpAny_pyHash_int h
  ·exact wpAny_pyHash_str h
 eqBool:=fun hu hv h=>by
  rcases j0i hu with⟨i,t,rfl,rfl⟩ | ⟨x,t,rfl,rfl⟩
  ·rcases j0i hv with⟨j,u,rfl,rfl⟩ | ⟨y,u,rfl,rfl⟩
   ·rw[key_ll] at h;exact wpAny_eqBool_int h
   ·rw[key_lr] at h;exact SeqAt.EqAt.int_str i t y u _ _ _ _ h
  ·rcases j0i hv with⟨j,u,rfl,rfl⟩ | ⟨y,u,rfl,rfl⟩
   ·rw[key_rl] at h;exact SeqAt.EqAt.str_int x t j u _ _ _ _ h
   ·rw[key_rr] at h;exact wpAny_eqBool_str h
 «strs»:=fun k x t v h=>by
  rcases j0i h with⟨i,u,rfl,e⟩ | ⟨y,u,rfl,e⟩
  ·exact nomatch e
  ·injection e with e1 _
   subst e1
   cases v <;> rfl
theorem j7c (prog:Program) (w:World) (i:Int) (t:Tok):(j0r prog w).is (.inl i) (.int i t)=true:=jaa i t
theorem j7d (prog:Program) (w:World) (x:Str) (t:Tok):(j0r prog w).is (.inr x) (.str x t)=true:=jab x t
inductive V where
 | non | bl (b:Bool) | int (i:Int) | str (x:Str) | byt (b:Array UInt8) | flt (b:UInt64) | ref (a:Addr) | ty (n:String)
 deriving DecidableEq
def RelV:V→Value→Prop
 | .non,u=>u=Value.none
 | .bl b,u=>u=Value.bool b
 | .int i,u=>∃ t,u=Value.int i t
 | .str x,u=>∃ t,u=Value.str x t
 | .byt b,u=>∃ t,u=Value.bytes b t
 | .flt b,u=>∃ t,u=Value.float b t
 | .ref a,u=>u=Value.ref a
 | .ty n,u=>u=Value.type n
abbrev Vals:List V→List Value→Prop:=Paired RelV
theorem Vals.length {xs:List V}{us:List Value} (r:Vals xs us):xs.length=us.length:=Paired.length r
theorem Vals.get:∀ {xs:List V}{us:List Value}{i:Nat}{x:V},Vals xs us→xs[i]?=some x→∃ u,us[i]?=some u∧RelV x u
 | _,_,_,_,.nil,e=>by simp at e
 | _,_,0,_,.cons r _,e=>by simp at e;subst e;exact⟨_,rfl,r⟩
 | _,_,i+1,x,.cons _ t,e=>by
  obtain⟨u,h1,h2⟩:=Vals.get (i:=i) (x:=x) t (by simpa using e)
  exact⟨u,by simpa using h1,h2⟩
theorem Vals.append:∀ {xs ys:List V}{us ws:List Value},Vals xs us→Vals ys ws→Vals (xs++ys) (us++ws)
 | _,_,_,_,.nil,s=>s
 | _,_,_,_,.cons r t,s=>.cons r (Vals.append t s)
theorem Vals.take:∀ {xs:List V}{us:List Value} (n:Nat),Vals xs us→Vals (xs.take n) (us.take n)
 | _,_,0,_=>.nil
 | _,_,_+1,.nil=>.nil
 | _,_,n+1,.cons r t=>.cons r (Vals.take n t)
theorem Vals.drop:∀ {xs:List V}{us:List Value} (n:Nat),Vals xs us→Vals (xs.drop n) (us.drop n)
 | _,_,0,r=>r
 | _,_,_+1,.nil=>.nil
 | _,_,n+1,.cons _ t=>Vals.drop n t
def RelO:Option V→Option Value→Prop
 | some v,some u=>RelV v u
 | none,none=>True
 | _,_=>False
def KV {κ:Type}:List (κ × V)→List (κ × Value)→Prop:=Paired fun (p:κ × V) (q:κ × Value)=>p.1=q.1∧RelV p.2 q.2
def kV:Key→V
 | .inl i=>.int i
 | .inr x=>.str x
def TupN (h:Heap) (a:Addr) (xs:Array Value):Prop:=IsTup h a xs∧∃ o,h.get? a=some o∧o.dict=none
theorem TupN.new (h:Heap) (xs:Array Value):TupN (h.push { cls:=.type "tuple",data:=.seq xs }) h.objs.size xs:=⟨IsTup.new _ _,_,Heap.get?_push_size _ rfl,rfl⟩
inductive HO where
  | lst (xs:List V)
  | tup (xs:List V)
  | dK (kvs:List (Key × V)) | dT (kvs:List (List Key × V))
  | set (S:Int→Bool) (n:Nat)
  | ins (C dx:Addr) (fs:List (Str × V))
  | own (x:Addr)
  | xd (fs:List (Str × V))
  | met (f x:Addr)
  | rng (lo hi:Int)
  | frz (o:Obj) (u:HO)
  | tbl (ps:Array Value)
  | ext (φ:Heap→Prop)
abbrev Hp:=Addr→Option HO
def upd (H:Hp) (a:Addr) (o:HO):Hp:=fun b=>if b=a then some o else H b
theorem j04 {H:Hp}{a:Addr}{o:HO}:upd H a o a=some o:=by unfold upd;rw[if_pos rfl]
theorem j08 {H:Hp}{a b:Addr}{o:HO} (h:b≠a):upd H a o b=H b:=by unfold upd;rw[if_neg h]
theorem jc1 {H:Hp}{a:Addr}{o u:HO}:upd (upd H a o) a u=upd H a u:=by
 funext b;unfold upd;split <;> rfl
theorem ne_of {H:Hp}{a b:Addr}{o u:HO} (h:H a=some o) (h':H b=some u) (d:o≠u):a≠b:=by
 intro e;subst e;rw[h] at h';exact d (Option.some.inj h')
theorem j05 {H:Hp}{a b:Addr}{o:HO} (h:H a=some o) (h':H b=none):a≠b:=by
 intro e;subst e;rw[h] at h';cases h'
section
variable (P:Program) (w:World)
def ObjOk (H:Hp) (h:Heap) (a:Addr):HO→Prop
 | .lst xs=>xs.length≤sizeLine∧∃ (its:List Value) (n:Nat),Vals xs its∧h.get? a=some { cls:=.type "list",data:=.seq its.toArray n }
 | .tup xs=>xs.length≤sizeLine∧∃ its:List Value,Vals xs its∧TupN h a its.toArray
 | .dK kvs=>kvs.length≤sizeLine∧(a == sysModules)=false∧∃ vs,KV kvs vs∧h.DictOf (j0r P w) a vs
 | .dT kvs=>kvs.length≤sizeLine∧(a == sysModules)=false∧∃ xs:List (List Key × Addr × Value),
   Paired (fun (p:List Key × V) (q:List Key × Addr × Value)=>p.1=q.1∧H q.2.1=some (.tup (p.1.map kV))∧RelV p.2 q.2.2) kvs xs ∧
   ∃ o es ep,h.get? a=some o∧o.ExactDict∧o.data=.dict es ep∧es.toList=xs.map (entryOfKey (tupleKind (j0r P w)))∧(xs.map (·.1)).Nodup
 | .set S n=>h.SetOf (intKind P w) a S n
 | .ins C dx fs=>H dx=some (.own a)∧fs.length≤1000∧dx≠a∧h.get? a=some (PySem.W.instObj C dx) ∧
   ∃ mA,h.Ns1 dx mA∧(∀ f,RelO (fs.lookup f) (mA f))∧PySem.Within mA (fs.map (·.1))
 | .own _=>∃ o,h.get? a=some o
 | .xd fs=>∃ mA,h.Ns1 a mA∧∀ f,RelO (fs.lookup f) (mA f)
 | .rng lo hi=>∃ t u v,h.get? a=some { cls:=.type "range",data:=.fields #[.int lo t,.int hi u,.int 1 v] }
 | .frz o u=>h.get? a=some o∧ObjOk H h a u
 | .tbl ps=>h.get? a=some { cls:=.none,data:=.fields ps }
 | .met f x=>h.get? a=some (PySem.W.methodObj (.ref f) (.ref x))
 | .ext φ=>φ h∧(∃ o,h.get? a=some o)∧∀ h1 h2:Heap,φ h1→(∀ o,h1.get? a=some o→h2.get? a=some o)→φ h2
def HOk (H:Hp) (h:Heap):Prop:=∀ a o,H a=some o→ObjOk P w H h a o
end
section
variable {P:Program}{w:World}{H H':Hp}{h h':Heap}{a:Addr}{o:HO}
theorem ObjOk.lt (x:ObjOk P w H h a o):a < h.objs.size:=by
 cases o with
 | lst xs=>obtain⟨_,_,_,_,e⟩:=x;exact Heap.lt_size e
 | tup xs=>obtain⟨_,_,_,p⟩:=x;exact p.1.lt
 | dK kvs=>obtain⟨_,_,_,_,o,_,_,e,_⟩:=x;exact Heap.lt_size e
 | dT kvs=>obtain⟨_,_,_,_,o,_,_,e,_⟩:=x;exact Heap.lt_size e
 | set S n=>obtain⟨o,_,_,_,e,_⟩:=x;exact Heap.lt_size e
 | ins C dx fs=>obtain⟨_,_,_,e,_⟩:=x;exact Heap.lt_size e
 | own y=>obtain⟨_,e⟩:=x;exact Heap.lt_size e
 | xd fs=>obtain⟨_,⟨_,_,_,e,_⟩,_⟩:=x;exact Heap.lt_size e
 | rng lo hi=>obtain⟨_,_,_,e⟩:=x;exact Heap.lt_size e
 | frz ob u=>obtain⟨e,_⟩:=x;exact Heap.lt_size e
 | tbl ps=>exact Heap.lt_size (show h.get? a=some _ from x)
 | met f y=>exact Heap.lt_size (show h.get? a=some _ from x)
 | ext φ=>obtain⟨_,⟨_,e⟩,_⟩:=x;exact Heap.lt_size e
theorem Paired.mapP {α β:Type}{F G:α→β→Prop}:∀ {l₁:List α}{l₂:List β},Paired F l₁ l₂→(∀ a b,F a b→G a b)→Paired G l₁ l₂
 | _,_,.nil,_=>.nil
 | _,_,.cons r t,f=>.cons (f _ _ r) (Paired.mapP t f)
theorem ObjOk.stay (x:ObjOk P w H h a o) (k:∀ b u,(b=a∨H b=some (.own a))→h.get? b=some u→h'.get? b=some u)
  (ho:∀ b,H b=some (.own a)→H' b=some (.own a)) (ht:∀ b xs,H b=some (.tup xs)→H' b=some (.tup xs)):ObjOk P w H' h' a o:=by
 induction o with
 | lst xs=>obtain⟨z,its,n,r,e⟩:=x;exact⟨z,its,n,r,k _ _ (.inl rfl) e⟩
 | tup xs=>obtain⟨z,its,r,⟨ob,e,c⟩,od,f,d⟩:=x;exact⟨z,its,r,⟨ob,k _ _ (.inl rfl) e,c⟩,od,k _ _ (.inl rfl) f,d⟩
 | dK kvs=>obtain⟨z,y,vs,r,ob,es,ep,e,c⟩:=x;exact⟨z,y,vs,r,ob,es,ep,k _ _ (.inl rfl) e,c⟩
 | dT kvs =>
  obtain⟨z,y,xs,r,ob,es,ep,e,c⟩:=x
  exact⟨z,y,xs,Paired.mapP r fun p q z=>⟨z.1,ht _ _ z.2.1,z.2.2⟩,ob,es,ep,k _ _ (.inl rfl) e,c⟩
 | set S n=>obtain⟨ob,es,ep,t,e,c⟩:=x;exact⟨ob,es,ep,t,k _ _ (.inl rfl) e,c⟩
 | ins C dx fs =>
  obtain⟨d,z,ne,e,mA,⟨od,es,ep,e2,c⟩,r⟩:=x
  exact⟨ho _ d,z,ne,k _ _ (.inl rfl) e,mA,⟨od,es,ep,k _ _ (.inr d) e2,c⟩,r⟩
 | own y=>obtain⟨ob,e⟩:=x;exact⟨ob,k _ _ (.inl rfl) e⟩
 | xd fs=>obtain⟨mA,⟨od,es,ep,e,c⟩,r⟩:=x;exact⟨mA,⟨od,es,ep,k _ _ (.inl rfl) e,c⟩,r⟩
 | rng lo hi=>obtain⟨t,u,v,e⟩:=x;exact⟨t,u,v,k _ _ (.inl rfl) e⟩
 | frz ob u ih=>obtain⟨e,q⟩:=x;exact⟨k _ _ (.inl rfl) e,ih q⟩
 | tbl ps =>
  have e:h.get? a=some { cls:=.none,data:=.fields ps }:=x
  show h'.get? a=some { cls:=.none,data:=.fields ps }
  exact k a _ (.inl rfl) e
 | met f y =>
  have e:h.get? a=some (PySem.W.methodObj (.ref f) (.ref y)):=x
  show h'.get? a=some (PySem.W.methodObj (.ref f) (.ref y))
  exact k a _ (.inl rfl) e
 | ext φ=>obtain⟨p,⟨o,e⟩,st⟩:=x;exact⟨st _ _ p fun o q=>k _ _ (.inl rfl) q,⟨o,k _ _ (.inl rfl) e⟩,st⟩
theorem HOk.lt (x:HOk P w H h) (e:H a=some o):a < h.objs.size:=(x a o e).lt
theorem HOk.fresh (x:HOk P w H h) (e:h.objs.size≤a):H a=none:=by
 cases q:H a with
 | none=>rfl
 | some u=>exact absurd (Nat.lt_of_lt_of_le (x.lt q) e) (Nat.lt_irrefl _)
theorem HOk.kept (x:HOk P w H h) (k:∀ b u,h.get? b=some u→h'.get? b=some u):HOk P w H h':=fun a o e =>
 (x a o e).stay (fun b u _ q=>k b u q) (fun _ q=>q) fun _ _ q=>q
theorem HOk.laid (x:HOk P w H h) (k:∀ b u,h.get? b=some u→h'.get? b=some u) (hp:h.objs.size≤a) (new:ObjOk P w (upd H a o) h' a o):HOk P w (upd H a o) h':=fun b u e=>by
 have hn:=x.fresh hp
 by_cases hb:b=a
 ·subst hb;rw[j04] at e;cases e;exact new
 ·rw[j08 hb] at e
  exact (x b u e).stay (fun c v _ q=>k c v q) (fun c q=>by rw[j08 (j05 q hn)];exact q) fun c xs q=>by rw[j08 (j05 q hn)];exact q
end
def Rd (H:Hp) (a:Addr) (u:HO):Prop:=H a=some u∨∃ o,H a=some (.frz o u)
theorem Rd.ok {P:Program}{w:World}{H:Hp}{h:Heap}{a:Addr}{u:HO} (r:Rd H a u) (x:HOk P w H h):ObjOk P w H h a u:=by
 rcases r with r | ⟨o,r⟩
 ·exact x a u r
 ·obtain⟨_,q⟩:=x a _ r
  exact q
def Mut:Option HO→Prop
 | some (.lst _)=>True
 | some (.dK _)=>True
 | some (.dT _)=>True
 | some (.set _ _)=>True
 | some (.ins _ _ _)=>True
 | some (.ext _)=>True
 | _=>False
section
variable {P:Program}{w:World}{H:Hp}{h h':Heap}{x e:Addr}{o':HO}
theorem HOk.write (ok:HOk P w H h) (mu:Mut (H x)) (he:e=x∨H e=some (.own x)) (k:∀ b u,b≠e→h.get? b=some u→h'.get? b=some u) (heo:∃ u,h'.get? e=some u)
  (new:ObjOk P w (upd H x o') h' x o'):HOk P w (upd H x o') h':=fun b u q=>by
 have nown:∀ c y,H c=some (.own y)→c≠x:=fun c y r z=>by subst z;rw[r] at mu;exact mu
 have ntup:∀ c xs,H c=some (.tup xs)→c≠x:=fun c xs r z=>by subst z;rw[r] at mu;exact mu
 by_cases hb:b=x
 ·subst hb;rw[j04] at q;cases q;exact new
 ·rw[j08 hb] at q
  by_cases hbe:b=e
  ·have q':H b=some (.own x):=by
    rcases he with z | z
    ·exact absurd (hbe.trans z) hb
    ·rw[hbe];exact z
   rw[q] at q';cases q'
   obtain⟨v,hv⟩:=heo
   exact⟨v,by rw[hbe];exact hv⟩
  ·refine (ok b u q).stay (fun c v hc r=>k c v ?_ r) (fun c r=>by rw[j08 (nown c b r)];exact r) fun c xs r=>by rw[j08 (ntup c xs r)];exact r
   rcases hc with rfl | hc
   ·exact hbe
   ·rintro rfl
    rcases he with z | z
    ·exact nown c b hc z
    ·rw[hc] at z;cases z;exact hb rfl
end
structure Un (fs ex:List Addr) (H H':Hp) (h h':Heap):Prop where
 keep:∀ b o,h.get? b=some o→H b=none→b∉fs→b∉ex→h'.get? b=some o
 slot:∀ b o,h.get? b=some o→H b=none→b∈fs→b∉ex→∃ sl,h'.get? b=some { o with slots:=sl }
 free:∀ b o,h.get? b=some o→H b=none→b∉ex→H' b=none
 there:∀ b o,h.get? b=some o→b∉ex→∃ o',h'.get? b=some o'
 tups:∀ b xs,H b=some (.tup xs)→H' b=some (.tup xs)
 frzs:∀ b o u,H b=some (.frz o u)→H' b=some (.frz o u)
 tbls:∀ b ps,H b=some (.tbl ps)→∃ more,H' b=some (.tbl (ps++more))
section
variable {fs fs' ex ex':List Addr}{H H1 H2:Hp}{h h1 h2 h':Heap}{a x e:Addr}{o:HO}
theorem Un.any (u:Un fs ex H H1 h h1) {b:Addr}{ob:Obj} (q:h.get? b=some ob) (n:H b=none) (hx:b∉ex):∃ sl,h1.get? b=some { ob with slots:=sl }:=by
 by_cases hb:b∈fs
 ·exact u.slot b ob q n hb hx
 ·exact⟨ob.slots,u.keep b ob q n hb hx⟩
theorem Un.kept (k:∀ b u,h.get? b=some u→h'.get? b=some u):Un fs ex H H h h' :=
 ⟨fun b ob q _ _ _=>k b ob q,fun b ob q _ _ _=>⟨ob.slots,k b ob q⟩,fun _ _ _ n _=>n,fun b ob q _=>⟨ob,k b ob q⟩,fun _ _ q=>q,fun _ _ _ q=>q,fun _ ps q=>⟨#[],by rw[q];simp⟩⟩
theorem Un.refl:Un fs ex H H h h:=Un.kept fun _ _ q=>q
theorem Un.laid (k:∀ b u,h.get? b=some u→h'.get? b=some u) (hp:h.objs.size≤a) (hn:H a=none):Un fs ex H (upd H a o) h h' where
 keep:=fun b u q _ _ _=>k b u q
 slot:=fun b u q _ _ _=>⟨u.slots,k b u q⟩
 free:=fun b u q n _=>by rw[j08 (Nat.ne_of_lt (Nat.lt_of_lt_of_le (Heap.lt_size q) hp))];exact n
 there:=fun b u q _=>⟨u,k b u q⟩
 tups:=fun b xs q=>by rw[j08 (j05 q hn)];exact q
 frzs:=fun b u xs q=>by rw[j08 (j05 q hn)];exact q
 tbls:=fun b ps q=>⟨#[],by rw[j08 (j05 q hn),q];simp⟩
theorem Un.write (mu:Mut (H x)) (he:e=x∨H e=some (.own x)) (k:∀ b u,b≠e→h.get? b=some u→h'.get? b=some u) (heo:∃ u,h'.get? e=some u):Un fs ex H (upd H x o) h h':=by
 have hx:∀ b,H b=none→b≠x:=fun b n z=>by subst z;rw[n] at mu;exact mu
 have hb:∀ b,H b=none→b≠e:=fun b n z=>by
  subst z
  rcases he with r | r
  ·exact hx b n r
  ·rw[n] at r;cases r
 have hm:∀ b u,H b=some u→¬ Mut (some u)→b≠x:=fun b u q nm z=>by subst z;rw[q] at mu;exact nm mu
 refine⟨fun b u q n _ _=>k b u (hb b n) q,fun b u q n _ _=>⟨u.slots,k b u (hb b n) q⟩,fun b u q n _=>by rw[j08 (hx b n)];exact n,fun b u q _=>?_,
  fun b xs q=>by rw[j08 (hm b _ q fun z=>z)];exact q,fun b u xs q=>by rw[j08 (hm b _ q fun z=>z)];exact q,fun b ps q=>⟨#[],by rw[j08 (hm b _ q fun z=>z),q];simp⟩⟩
 by_cases hbe:b=e
 ·subst hbe;exact heo
 ·exact⟨u,k b u hbe q⟩
end
def trk (h:Heap) (H:Hp):List Addr:=(List.range h.objs.size).filter fun a=>(H a).isSome
def hidT (h:Heap) (H:Hp):Heap:=PySem.W.hideAll h (trk h H)
theorem j6b (h:Heap) (H:Hp):(hidT h H).objs.size=h.objs.size:=PySem.W.hideAll_size _ _
theorem j7x {h:Heap}{H:Hp}{b:Addr}{o:Obj} (e:h.get? b=some o) (n:H b=none):(hidT h H).get? b=some o :=
 PySem.W.hideAll_get _ e fun hm=>by
  have q:(H b).isSome=true:=(List.mem_filter.mp hm).2
  rw[n] at q;simp at q
theorem jc2 {h:Heap}{H:Hp}{b:Addr}{o:Obj} (e:(hidT h H).get? b=some o):h.get? b=some o∧H b=none:=by
 have e':h.get? b=some o:=PySem.W.of_hideAll (trk h H) e
 refine⟨e',?_⟩
 cases q:H b with
 | none=>rfl
 | some x =>
  have hm:b∈trk h H:=List.mem_filter.mpr ⟨List.mem_range.mpr (Heap.lt_size e'),by simp[q]⟩
  have z:(hidT h H).get? b=none:=PySem.W.hideAll_none (trk h H) hm
  rw[z] at e;cases e
def jfo (g h:Heap) (L:Addr):List (Addr × Obj):=(List.range h.objs.size).filterMap fun a=>if a=L∨(g.get? a).isSome=true then none else (h.get? a).map fun o=>(a,o)
def rest (g h:Heap) (L d:Addr):List (Addr × Obj):=(jfo g h L).filter fun p=>decide (p.1≠d)
structure Mod (K:PySem.W.Frag) (mg:Str→Option Value) (base:Heap):Prop where
 kin:K.In base
 glob:base.Ns mainGlobals mg
 blt:∃ mb,base.Ns builtinsNs mb∧∀ x:Str,x≠"__name__"→mb x=bootBuiltins x
 nolimit:base.NoLimit
 bmain:∃ bm ob,mg "__builtins__"=some (.ref bm)∧bm≠builtinsNs∧base.get? bm=some ob∧ob.cls=.type "module"∧ob.dict=some builtinsNs∧ob.data=.plain
structure Cx where
 prog:Program
 w:World
 K:PySem.W.Frag
 mg:Str→Option Value
 base:Heap
 A:Around
 N:List Str
 s₀:Shared
 H₀:Hp
 env:Env
 outer:List Env
 stack:List Env
 ex:List Addr
 fn:Str→Bool
 calm:Bool
 pn:List (Addr × Obj)
 xe:Value→Shared→Prop
def frs (l:List Env):List Addr:=l.filterMap (·.frame)
abbrev Cx.fs (X:Cx):List Addr:=frs X.outer
def Vis (sc:Scope) (x:Str):Prop:=sc.names.lookup x=some .local∨sc.names.lookup x=some .cell∨sc.names.lookup x=some .free
def Loc (sc:Scope) (x:Str):Prop:=sc.names.lookup x=some .local∨sc.names.lookup x=some .cell
def Look (env:Env) (h:Heap) (m:Str→Option Value) (x:Str) (u:Value):Prop :=
 (env.kindOf x=some .local∧m x=some u)∨((env.kindOf x=some .cell∨env.kindOf x=some .free)∧∃ c,env.cells.lookup x=some c∧h.IsCell c (some u))
structure Cx.Ok (X:Cx):Prop where
 mod:Mod X.K X.mg X.base
 kind:X.env.scope.kind=.function
 glob:X.env.globals=mainGlobals
 blt:X.env.builtins=builtinsNs
 above:X.s₀.heap.objs.size≤X.env.locals
 inj:∀ x y c,X.env.cells.lookup x=some c→X.env.cells.lookup y=some c→x=y
 has:∀ x,(X.env.kindOf x=some .cell∨X.env.kindOf x=some .free)→∃ c,X.env.cells.lookup x=some c
 cab:∀ x c,X.fn x=true→X.env.cells.lookup x=some c→X.s₀.heap.objs.size≤c
 hd:X.calm=true→X.A.handled=none
 frames:X.A.frames=some X.stack
 stk:X.stack=X.outer∨(X.stack=X.env :: X.outer∧X.env.frame=some X.env.locals)
 exf:∀ b∈X.ex,b≠X.env.locals∧∀ x c,X.env.cells.lookup x=some c→c≠b
 bs:∀ b o,X.base.get? b=some o→X.s₀.heap.get? b=some o∧X.H₀ b=none
 bsz:X.base.objs.size≤X.s₀.heap.objs.size
 noex:∀ b o,X.base.get? b=some o→b∉X.ex
 exfs:∀ b∈X.ex,b∉X.fs
 funs:X.s₀.heap.FunFrames X.base X.outer
 frf:∀ b∈X.fs,X.H₀ b=none
structure Inv (X:Cx) (pins:List (Addr × Obj)) (σ:List (Option V)) (H:Hp) (s:Shared):Prop where
 ok:X.Ok
 os:s.os=X.s₀.os
 bare:AllBare s.gens
 base:Un X.fs X.ex X.H₀ H X.s₀.heap s.heap
 loc:∃ m,s.heap.Ns X.env.locals m∧∀ (i:Nat) (x:Str) (v:V),X.N[i]?=some x→σ[i]?=some (some v)→Vis X.env.scope x→∃ u,RelV v u∧Look X.env s.heap m x u
 cell:∀ x c,X.env.cells.lookup x=some c→∃ v,s.heap.IsCell c v
 free:H X.env.locals=none
 freeC:∀ x c,X.env.cells.lookup x=some c→H c=none
 pin:∀ p∈X.pn++pins,s.heap.get? p.1=some p.2∧H p.1=none∧p.1≠X.env.locals∧p.1∉X.fs∧∀ v,p.2.data≠.cell v
 hok:HOk X.prog X.w H s.heap
 len:σ.length=X.N.length
section
variable {X:Cx}{pins:List (Addr × Obj)}{σ:List (Option V)}{H H':Hp}{s:Shared}{h':Heap}
theorem Cx.Ok.nofr (ok:X.Ok) {b:Addr}{o:Obj} (e:X.base.get? b=some o):b∉X.fs:=fun hb=>by
 have:=(ok.funs.mem hb).1
 rw[e] at this;cases this
theorem Inv.bs (I:Inv X pins σ H s):∀ b o,X.base.get? b=some o→s.heap.get? b=some o∧H b=none:=fun b o e =>
 ⟨I.base.keep b o (I.ok.bs b o e).1 (I.ok.bs b o e).2 (I.ok.nofr e) (I.ok.noex b o e),I.base.free b o (I.ok.bs b o e).1 (I.ok.bs b o e).2 (I.ok.noex b o e)⟩
theorem Inv.bk (I:Inv X pins σ H s):∀ b o,X.base.get? b=some o→s.heap.get? b=some o:=fun b o e=>(I.bs b o e).1
theorem Inv.mod (I:Inv X pins σ H s):Mod X.K X.mg X.base:=I.ok.mod
theorem Inv.kIn (I:Inv X pins σ H s):X.K.In s.heap:=I.ok.mod.kin.keeps I.bk
theorem Inv.nolimit (I:Inv X pins σ H s):s.heap.NoLimit:=I.ok.mod.nolimit.keeps I.bk
theorem Inv.lt (I:Inv X pins σ H s):X.env.locals < s.heap.objs.size:=let ⟨_,hn,_⟩:=I.loc;hn.lt
theorem Inv.sz (I:Inv X pins σ H s):X.s₀.heap.objs.size≤s.heap.objs.size:=Nat.le_trans I.ok.above (Nat.le_of_lt I.lt)
theorem Inv.nofs (I:Inv X pins σ H s) {a:Addr} (h:s.heap.objs.size≤a):a∉X.fs:=fun hb=>by
 obtain⟨_,o,ho,_⟩:=I.ok.funs.mem hb
 exact absurd (Nat.lt_of_lt_of_le (Heap.lt_size ho) (Nat.le_trans I.sz h)) (Nat.lt_irrefl _)
theorem Inv.cne (I:Inv X pins σ H s):∀ x c,X.env.cells.lookup x=some c→c≠X.env.locals:=fun x c e z=>by
 obtain⟨v,o,ho,hd⟩:=I.cell x c e
 obtain⟨m,⟨o',es,ep,ho',hd',_⟩,_⟩:=I.loc
 rw[z,ho'] at ho;cases ho;rw[hd'] at hd;cases hd
theorem Inv.funs (I:Inv X pins σ H s):s.heap.FunFrames X.base X.outer:=by
 have all:∀ (l:List Env),(∀ b∈frs l,b∈X.fs)→X.s₀.heap.FunFrames X.base l→s.heap.FunFrames X.base l:=by
  intro l
  induction l with
  | nil=>intro _ _;trivial
  | cons env r ih =>
   intro hs hl
   obtain⟨hk,⟨L,o,hf,hn,ho,hd⟩,hr⟩:=hl
   have hL:L∈X.fs:=hs L (by unfold frs;rw[List.filterMap_cons,hf];exact List.mem_cons_self)
   obtain⟨sl,e⟩:=I.base.slot L o ho (I.ok.frf L hL) hL fun z=>I.ok.exfs L z hL
   exact⟨hk,⟨L,_,hf,hn,e,hd⟩,ih (fun b hb=>hs b (by unfold frs;rw[List.filterMap_cons,hf];exact List.mem_cons_of_mem _ hb)) hr⟩
 exact all X.outer (fun _ hb=>hb) I.ok.funs
theorem Inv.stack (I:Inv X pins σ H s):s.heap.FunFrames X.base X.stack:=by
 rcases I.ok.stk with e | ⟨e,hf⟩
 ·rw[e];exact I.funs
 ·rw[e]
  obtain⟨m,hn,_⟩:=I.loc
  refine .cons (by rw[I.ok.kind];decide) hf hn ?_ I.funs
  exact Heap.get?_none_of_le (Nat.le_trans I.ok.bsz I.ok.above)
theorem Inv.stkSub (I:Inv X pins σ H s):∀ b∈frs X.stack,b∈X.env.locals :: X.fs:=fun b hb=>by
 rcases I.ok.stk with e | ⟨e,hf⟩
 ·rw[e] at hb;exact List.mem_cons_of_mem _ hb
 ·rw[e] at hb
  unfold frs at hb
  rw[List.filterMap_cons,hf] at hb
  exact hb
theorem Inv.stkFree (I:Inv X pins σ H s):∀ b∈frs X.stack,H b=none:=fun b hb=>by
 rcases List.mem_cons.mp (I.stkSub b hb) with e | hb
 ·rw[e];exact I.free
 ·obtain⟨_,o,ho,_⟩:=I.ok.funs.mem hb
  exact I.base.free b o ho (I.ok.frf b hb) fun z=>I.ok.exfs b z hb
theorem Inv.step {g':Array GenState}{t':Nat}{d':Drawn}{ch:List Addr} (I:Inv X pins σ H s)
  (hch:∀ b∈ch,(b∈X.ex∨X.s₀.heap.objs.size≤b)∧b≠X.env.locals∧(∀ x c,X.env.cells.lookup x=some c→c≠b)∧∀ p∈X.pn++pins,p.1≠b)
  (keep:∀ b o,b≠X.env.locals→b∉X.fs→b∉ch→s.heap.get? b=some o→H b=none→h'.get? b=some o)
  (slot:∀ b o,b≠X.env.locals→b∈X.fs→b∉ch→s.heap.get? b=some o→H b=none→∃ sl,h'.get? b=some { o with slots:=sl }) (free:∀ b o,b∉ch→s.heap.get? b=some o→H b=none→H' b=none)
  (there:∀ b o,b∉ch→s.heap.get? b=some o→∃ o',h'.get? b=some o')
  (tups:∀ b xs,H b=some (.tup xs)→H' b=some (.tup xs)) (frzs:∀ b o u,H b=some (.frz o u)→H' b=some (.frz o u)) (tbls:∀ b ps,H b=some (.tbl ps)→∃ more,H' b=some (.tbl (ps++more)))
  (ns:∀ m,s.heap.Ns X.env.locals m→h'.Ns X.env.locals m) (hok:HOk X.prog X.w H' h') (hg:AllBare g') :
  Inv X pins σ H' { s with heap:=h',gens:=g',drawn:=d',toks:=t' }:=by
 have neL:∀ b o,X.s₀.heap.get? b=some o→b≠X.env.locals:=fun b o e=>Nat.ne_of_lt (Nat.lt_of_lt_of_le (Heap.lt_size e) I.ok.above)
 have neC:∀ b o,X.s₀.heap.get? b=some o→b∉X.ex→b∉ch:=fun b o e hx hb=>by
  rcases (hch b hb).1 with z | z
  ·exact hx z
  ·exact absurd (Nat.lt_of_lt_of_le (Heap.lt_size e) z) (Nat.lt_irrefl _)
 have cellK:∀ x c,X.env.cells.lookup x=some c→∀ v,s.heap.IsCell c v→h'.IsCell c v:=fun x c e v ⟨o,ho,hd⟩=>by
  have nch:c∉ch:=fun z=>(hch c z).2.2.1 x c e rfl
  by_cases hc:c∈X.fs
  ·obtain⟨sl,q⟩:=slot c o (I.cne x c e) hc nch ho (I.freeC x c e)
   exact⟨_,q,hd⟩
  ·exact⟨o,keep c o (I.cne x c e) hc nch ho (I.freeC x c e),hd⟩
 refine⟨I.ok,I.os,hg,⟨fun b o e n hb hx=>?_,fun b o e n hb hx=>?_,fun b o e n hx=>?_,fun b o e hx=>?_,fun b xs e=>tups b xs (I.base.tups b xs e),fun b o xs e=>frzs b o xs (I.base.frzs b o xs e),fun b ps e=>?_⟩,?_,fun x c e=>?_,?_,fun x c e=>?_,fun p hp=>?_,hok,I.len⟩
 ·exact keep b o (neL b o e) hb (neC b o e hx) (I.base.keep b o e n hb hx) (I.base.free b o e n hx)
 ·obtain⟨sl,e1⟩:=I.base.slot b o e n hb hx
  obtain⟨sl',e2⟩:=slot b _ (neL b o e) hb (neC b o e hx) e1 (I.base.free b o e n hx)
  exact⟨sl',e2⟩
 ·obtain⟨o',e1⟩:=I.base.there b o e hx
  exact free b o' (neC b o e hx) e1 (I.base.free b o e n hx)
 ·obtain⟨o',e1⟩:=I.base.there b o e hx
  exact there b o' (neC b o e hx) e1
 ·obtain⟨m1,e1⟩:=I.base.tbls b ps e
  obtain⟨m2,e2⟩:=tbls b _ e1
  exact⟨m1++m2,by rw[e2,Array.append_assoc]⟩
 ·obtain⟨m,hn,hl⟩:=I.loc
  refine⟨m,ns m hn,fun i x v e1 e2 e3=>?_⟩
  obtain⟨u,r,l⟩:=hl i x v e1 e2 e3
  refine⟨u,r,?_⟩
  rcases l with l | ⟨k,c,e,z⟩
  ·exact .inl l
  ·exact .inr ⟨k,c,e,cellK x c e _ z⟩
 ·obtain⟨v,z⟩:=I.cell x c e
  exact⟨v,cellK x c e v z⟩
 ·obtain⟨m,⟨o,_,_,ho,_⟩,_⟩:=I.loc
  exact free _ o (fun z=>(hch _ z).2.1 rfl) ho I.free
 ·obtain⟨v,o,ho,hd⟩:=I.cell x c e
  exact free c o (fun z=>(hch c z).2.2.1 x c e rfl) ho (I.freeC x c e)
 ·obtain⟨e,n,ne,nf,d⟩:=I.pin p hp
  have nch:p.1∉ch:=fun z=>(hch p.1 z).2.2.2 p hp rfl
  exact⟨keep p.1 p.2 ne nf nch e n,free p.1 p.2 nch e n,ne,nf,d⟩
theorem Inv.un {t':Nat} (I:Inv X pins σ H s) (u:Un X.fs [] H H' s.heap h') (hok:HOk X.prog X.w H' h'):Inv X pins σ H' { s with heap:=h',toks:=t' }:=by
 obtain⟨m,⟨o,es,ep,ho,r⟩,_⟩:=id I.loc
 obtain⟨sl,hL⟩:=u.any ho I.free (by simp)
 exact I.step (g':=s.gens) (d':=s.drawn) (ch:=[]) (fun _ z=>nomatch z) (fun b o _ hb _ e n=>u.keep b o e n hb (by simp)) (fun b o _ hb _ e n=>u.slot b o e n hb (by simp)) (fun b o _ e n=>u.free b o e n (by simp)) (fun b o _ e=>u.there b o e (by simp)) u.tups u.frzs u.tbls (fun m' hm=>by
  obtain⟨o',es',ep',ho',r'⟩:=hm
  rw[ho] at ho';cases ho'
  exact⟨_,es',ep',hL,r'⟩) hok I.bare
theorem Inv.call {g':Array GenState}{t':Nat}{d':Drawn}{ch:List Addr} (I:Inv X pins σ H s) (u:Un (frs X.stack) ch H H' s.heap h') (hok:HOk X.prog X.w H' h') (hg:AllBare g')
  (hch:∀ b∈ch,(b∈X.ex∨X.s₀.heap.objs.size≤b)∧b≠X.env.locals∧(∀ x c,X.env.cells.lookup x=some c→c≠b)∧∀ p∈X.pn++pins,p.1≠b) :
  Inv X pins σ H' { s with heap:=h',gens:=g',drawn:=d',toks:=t' }:=by
 obtain⟨m,⟨o,es,ep,ho,r⟩,_⟩:=id I.loc
 obtain⟨sl,hL⟩:=u.any ho I.free fun z=>(hch _ z).2.1 rfl
 exact I.step (ch:=ch) hch (fun b o hL hb hc e n=>u.keep b o e n (fun z=>(List.mem_cons.mp (I.stkSub b z)).elim hL hb) hc) (fun b o _ _ hc e n=>u.any e n hc) (fun b o hc e n=>u.free b o e n hc) (fun b o hc e=>u.there b o e hc) u.tups u.frzs u.tbls (fun m' hm=>by
  obtain⟨o',es',ep',ho',r'⟩:=hm
  rw[ho] at ho';cases ho'
  exact⟨_,es',ep',hL,r'⟩) hok hg
theorem Inv.turned {t':Nat}{it:Addr} (I:Inv X pins σ H s) (k:∀ b o,b≠it→s.heap.get? b=some o→h'.get? b=some o) (hn:H it=none) (hL:it≠X.env.locals)
  (h1:it∈X.ex∨X.s₀.heap.objs.size≤it) (h2:∀ x c,X.env.cells.lookup x=some c→c≠it) (h3:∀ p∈X.pn++pins,p.1≠it):Inv X pins σ H { s with heap:=h',toks:=t' }:=by
 have nit:∀ b u,H b=some u→b≠it:=fun b u e z=>by rw[z,hn] at e;cases e
 refine I.step (g':=s.gens) (d':=s.drawn) (ch:=[it]) (fun b hb=>?_) (fun b o _ _ hc e _=>k b o (fun z=>hc (by simp[z])) e) (fun b o _ _ hc e _=>⟨o.slots,k b o (fun z=>hc (by simp[z])) e⟩) (fun _ _ _ _ n=>n)
  (fun b o hc e=>⟨o,k b o (fun z=>hc (by simp[z])) e⟩) (fun _ _ e=>e) (fun _ _ _ e=>e) (fun b ps e=>⟨#[],by rw[e];simp⟩) (fun m hm=>?_) (fun b u e=>?_) I.bare
 ·have e:b=it:=by simpa using hb
  subst e
  exact⟨h1,hL,h2,h3⟩
 ·obtain⟨o,es,ep,ho,r⟩:=hm
  exact⟨o,es,ep,k _ o (Ne.symm hL) ho,r⟩
 ·refine (I.hok b u e).stay (fun c v hc q=>k c v ?_ q) (fun _ q=>q) fun _ _ q=>q
  rcases hc with z | z
  ·rw[z];exact nit b u e
  ·exact nit c _ z
theorem Inv.tok (I:Inv X pins σ H s) (t:Nat):Inv X pins σ H { s with toks:=t }:=I.un (h':=s.heap) (t':=t) Un.refl I.hok
theorem Inv.kept {t':Nat} (I:Inv X pins σ H s) (k:∀ b u,s.heap.get? b=some u→h'.get? b=some u):Inv X pins σ H { s with heap:=h',toks:=t' }:=I.un (Un.kept k) (I.hok.kept k)
theorem Inv.laid {a:Addr}{o:HO}{t':Nat} (I:Inv X pins σ H s) (k:∀ b u,s.heap.get? b=some u→h'.get? b=some u) (hp:s.heap.objs.size≤a) (new:ObjOk X.prog X.w (upd H a o) h' a o) :
  Inv X pins σ (upd H a o) { s with heap:=h',toks:=t' }:=I.un (Un.laid k hp (I.hok.fresh hp)) (I.hok.laid k hp new)
theorem Inv.write {x e:Addr}{o:HO}{t':Nat} (I:Inv X pins σ H s) (mu:Mut (H x)) (he:e=x∨H e=some (.own x)) (k:∀ b u,b≠e→s.heap.get? b=some u→h'.get? b=some u) (heo:∃ u,h'.get? e=some u)
  (new:ObjOk X.prog X.w (upd H x o) h' x o):Inv X pins σ (upd H x o) { s with heap:=h',toks:=t' }:=I.un (Un.write mu he k heo) (I.hok.write mu he k heo new)
theorem Inv.pins_of {pins':List (Addr × Obj)} (I:Inv X pins σ H s) (h:∀ p∈pins',s.heap.get? p.1=some p.2∧H p.1=none∧p.1≠X.env.locals∧p.1∉X.fs∧∀ v,p.2.data≠.cell v):Inv X pins' σ H s :=
 ⟨I.ok,I.os,I.bare,I.base,I.loc,I.cell,I.free,I.freeC,fun p hp=>(List.mem_append.mp hp).elim (fun z=>I.pin p (List.mem_append_left _ z)) (h p),I.hok,I.len⟩
theorem j5d {N:List Str} (hN:N.Nodup) {i j:Nat}{x:Str} (a:N[i]?=some x) (b:N[j]?=some x):i=j:=by
 obtain⟨h1,e1⟩:=List.getElem?_eq_some_iff.mp a
 obtain⟨h2,e2⟩:=List.getElem?_eq_some_iff.mp b
 exact (List.getElem_inj hN).mp (e1.trans e2.symm)
theorem jac {M:Model}{A:Around}{E:Value→Shared→Prop}{i:Nat}{x:Str}{v:V}{u:Value}{Q:Unit→Shared→Prop} (I:Inv X pins σ H s) (hN:X.N.Nodup) (hi:X.N[i]?=some x) (hx:Loc X.env.scope x) (r:RelV v u)
  (h:∀ s',Inv X pins (σ.set i (some v)) H s'→(∃ a,Heap.SameBut a s.heap s'.heap∧(a=X.env.locals∨X.env.cells.lookup x=some a))→Q () s') (hf:X.fn x=true∨X.env.scope.names.lookup x=some .local:=by first | exact .inl rfl | exact .inr rfl | assumption):wpAny M A (storeName X.env x u) Q E s:=by
 obtain⟨m,hn,hl⟩:=id I.loc
 have hcls:(X.env.scope.kind == .class || (X.env.scope.kind == .module && X.env.locals != X.env.globals))=false:=by rw[I.ok.kind];rfl
 have hiσ:i < σ.length:=by rw[I.len];exact (List.getElem?_eq_some_iff.mp hi).1
 have cne:=I.cne
 have tracked:∀ {a:Addr}{h':Heap},(∃ o,s.heap.get? a=some o∧H a=none)→Heap.SameBut a s.heap h'→HOk X.prog X.w H h':=fun {a h'} ha hs b ob e=>by
  obtain⟨_,_,hfree⟩:=ha
  refine (I.hok b ob e).stay (fun c w' hc q=>(hs.2 c ?_).trans q) (fun _ q=>q) fun _ _ q=>q
  rintro rfl
  rcases hc with rfl | hc
  ·rw[hfree] at e;cases e
  ·rw[hfree] at hc;cases hc
 rcases hx with hk | hk
 ·refine wpAny_storeName_local hk hn (fun h' hn' hs=>?_) hcls
  obtain⟨oL,_,_,hoL,_⟩:=id hn
  refine h _ ⟨I.ok,I.os,I.bare,⟨fun b o e n hb hx=>?_,fun b o e n hb hx=>?_,I.base.free,fun b o e hx=>?_,I.base.tups,I.base.frzs,I.base.tbls⟩,⟨_,hn',fun j y v' e1 e2 e3=>?_⟩,fun y c e=>?_,I.free,I.freeC,fun p hp=>?_,tracked ⟨oL,hoL,I.free⟩ hs,by simpa using I.len⟩ ⟨_,hs,.inl rfl⟩
  ·exact (hs.2 b (Nat.ne_of_lt (Nat.lt_of_lt_of_le (Heap.lt_size e) I.ok.above))).trans (I.base.keep b o e n hb hx)
  ·obtain⟨sl,e1⟩:=I.base.slot b o e n hb hx
   exact⟨sl,(hs.2 b (Nat.ne_of_lt (Nat.lt_of_lt_of_le (Heap.lt_size e) I.ok.above))).trans e1⟩
  ·obtain⟨o',e1⟩:=I.base.there b o e hx
   exact⟨o',(hs.2 b (Nat.ne_of_lt (Nat.lt_of_lt_of_le (Heap.lt_size e) I.ok.above))).trans e1⟩
  ·by_cases hj:j=i
   ·subst hj
    rw[hi] at e1;cases e1
    rw[List.getElem?_set_self hiσ] at e2
    cases e2
    exact⟨u,r,.inl ⟨hk,by simp⟩⟩
   ·rw[List.getElem?_set_ne (Ne.symm hj)] at e2
    obtain⟨u',r',q⟩:=hl j y v' e1 e2 e3
    refine⟨u',r',?_⟩
    rcases q with⟨k,e⟩ | ⟨k,c,e,z⟩
    ·refine .inl ⟨k,?_⟩
     have:y≠x:=fun e=>hj (j5d hN e1 (e ▸ hi))
     simp[this,e]
    ·exact .inr ⟨k,c,e,z.sameBut hs (cne y c e)⟩
  ·obtain⟨w',z⟩:=I.cell y c e
   exact⟨w',z.sameBut hs (cne y c e)⟩
  ·obtain⟨e,n,ne,nf,d⟩:=I.pin p hp
   exact⟨(hs.2 p.1 ne).trans e,n,ne,nf,d⟩
 ·have hfn:X.fn x=true:=by
   rcases hf with z | z
   ·exact z
   ·rw[z] at hk;cases hk
  obtain⟨c,hc⟩:=I.ok.has x (.inl hk)
  obtain⟨w',z⟩:=I.cell x c hc
  refine wpAny_storeName_cell I.ok.kind hk hc z (fun h' hc' hs=>?_)
  obtain⟨oc,hoc,hocd⟩:=id z
  refine h { s with heap:=h' } ⟨I.ok,I.os,I.bare,⟨fun b o e n hb hx=>?_,fun b o e n hb hx=>?_,I.base.free,fun b o e hx=>?_,I.base.tups,I.base.frzs,I.base.tbls⟩,⟨m,hn.sameBut hs (Ne.symm (cne x c hc)),fun j y v' e1 e2 e3=>?_⟩,fun y c' e=>?_,I.free,I.freeC,fun p hp=>?_,tracked ⟨oc,hoc,I.freeC x c hc⟩ hs,by simpa using I.len⟩ ⟨c,hs,.inr hc⟩
  ·exact (hs.2 b (Nat.ne_of_lt (Nat.lt_of_lt_of_le (Heap.lt_size e) (I.ok.cab x c hfn hc)))).trans (I.base.keep b o e n hb hx)
  ·obtain⟨sl,e1⟩:=I.base.slot b o e n hb hx
   exact⟨sl,(hs.2 b (Nat.ne_of_lt (Nat.lt_of_lt_of_le (Heap.lt_size e) (I.ok.cab x c hfn hc)))).trans e1⟩
  ·obtain⟨o',e1⟩:=I.base.there b o e hx
   exact⟨o',(hs.2 b (Nat.ne_of_lt (Nat.lt_of_lt_of_le (Heap.lt_size e) (I.ok.cab x c hfn hc)))).trans e1⟩
  ·by_cases hj:j=i
   ·subst hj
    rw[hi] at e1;cases e1
    rw[List.getElem?_set_self hiσ] at e2
    cases e2
    exact⟨u,r,.inr ⟨.inl hk,c,hc,hc'⟩⟩
   ·rw[List.getElem?_set_ne (Ne.symm hj)] at e2
    obtain⟨u',r',q⟩:=hl j y v' e1 e2 e3
    refine⟨u',r',?_⟩
    rcases q with q | ⟨k,c',e,z'⟩
    ·exact .inl q
    ·refine .inr ⟨k,c',e,z'.sameBut hs ?_⟩
     rintro rfl
     exact hj (j5d hN e1 (I.ok.inj _ _ _ e hc ▸ hi))
  ·by_cases hcc:c'=c
   ·subst hcc;exact⟨_,hc'⟩
   ·obtain⟨w2,z2⟩:=I.cell y c' e
    exact⟨w2,z2.sameBut hs hcc⟩
  ·obtain⟨e,n,ne,nf,d⟩:=I.pin p hp
   refine⟨(hs.2 p.1 ?_).trans e,n,ne,nf,d⟩
   intro q
   rw[q,hoc] at e
   have q':oc=p.2:=Option.some.inj e
   exact d w' (by rw[← q'];exact hocd)
theorem j3q {M:Model}{A:Around}{E:Value→Shared→Prop}{i:Nat}{x:Str}{v:V}{u:Value}{Q:Unit→Shared→Prop} (I:Inv X pins σ H s) (hN:X.N.Nodup) (hi:X.N[i]?=some x) (hx:Loc X.env.scope x) (r:RelV v u)
  (h:∀ s',Inv X pins (σ.set i (some v)) H s'→Q () s') (hf:X.fn x=true∨X.env.scope.names.lookup x=some .local:=by first | exact .inl rfl | exact .inr rfl | assumption):wpAny M A (storeName X.env x u) Q E s :=
 jac I hN hi hx r (fun s' I' _=>h s' I') hf
theorem Inv.call' {s':Shared}{ch:List Addr} (I:Inv X pins σ H s) (ho:s'.os=s.os) (u:Un (frs X.stack) ch H H' s.heap s'.heap) (hok:HOk X.prog X.w H' s'.heap) (hg:AllBare s'.gens)
  (hch:∀ b∈ch,(b∈X.ex∨X.s₀.heap.objs.size≤b)∧b≠X.env.locals∧(∀ x c,X.env.cells.lookup x=some c→c≠b)∧∀ p∈X.pn++pins,p.1≠b):Inv X pins σ H' s':=by
 obtain⟨h',g',d',t',o'⟩:=s'
 have e:o'=s.os:=ho
 subst e
 exact I.call (g':=g') (t':=t') (d':=d') u hok hg hch
end
abbrev XK:=Value→Option Addr→Hp→Prop
abbrev St:=List (Option V)
abbrev VK:=V→Hp→Prop
abbrev TE:=St→Hp→VK→Prop
abbrev TT:=St→Hp→(Bool→Hp→Prop)→Prop
abbrev TA:=St→Hp→(List V→Hp→Prop)→Prop
structure Ends where
 nx:St→Hp→Prop
 rt:VK
 bk:St→Hp→Prop:=fun _ _=>False
 ct:St→Hp→Prop:=fun _ _=>False
abbrev TS:=Ends→St→Hp→Prop
def EP (X:Cx) (pins:List (Addr × Obj)) (σ:St) (Q:VK) (u:Value) (s':Shared):Prop:=∃ v H',Inv X pins σ H' s'∧RelV v u∧Q v H'
def TP (X:Cx) (pins:List (Addr × Obj)) (σ:St) (Q:Bool→Hp→Prop) (b:Bool) (s':Shared):Prop:=∃ H',Inv X pins σ H' s'∧Q b H'
def AP (X:Cx) (pins:List (Addr × Obj)) (σ:St) (Q:List V→Hp→Prop) (us:List Value) (s':Shared):Prop:=∃ vs H',Inv X pins σ H' s'∧Vals vs us∧Q vs H'
def SP (X:Cx) (pins:List (Addr × Obj)) (D:Ends) (f:Flow) (s':Shared):Prop :=
 match f with
 | .next=>∃ σ' H',Inv X pins σ' H' s'∧D.nx σ' H'
 | .brk=>∃ σ' H',Inv X pins σ' H' s'∧D.bk σ' H'
 | .cont=>∃ σ' H',Inv X pins σ' H' s'∧D.ct σ' H'
 | .ret u=>∃ v σ' H',Inv X pins σ' H' s'∧RelV v u∧D.rt v H'
def PE (X:Cx) (e:Expr) (t:TE):Prop :=
 ∀ (pins:List (Addr × Obj)) (s:Shared) (σ:St) (H:Hp) (Q:VK),Inv X pins σ H s→t σ H Q→wpAny (model X.prog X.w) X.A (eval e X.env) (EP X pins σ Q) X.xe s
def PT (X:Cx) (e:Expr) (t:TT):Prop :=
 ∀ (pins:List (Addr × Obj)) (s:Shared) (σ:St) (H:Hp) (Q:Bool→Hp→Prop),Inv X pins σ H s→t σ H Q→wpAny (model X.prog X.w) X.A (isTrue e X.env (eval e X.env)) (TP X pins σ Q) X.xe s
def PW (X:Cx) (e:Expr) (t:TT):Prop :=
 ∀ (whole:Sem Value) (pins:List (Addr × Obj)) (s:Shared) (σ:St) (H:Hp) (Q:Bool→Hp→Prop),Inv X pins σ H s→t σ H Q→wpAny (model X.prog X.w) X.A (isTrue e X.env whole) (TP X pins σ Q) X.xe s
theorem PW.pt {X:Cx}{e:Expr}{t:TT} (h:PW X e t):PT X e t:=h _
def PA (X:Cx) (es:List Expr) (t:TA):Prop :=
 ∀ (pos:Pos) (pins:List (Addr × Obj)) (s:Shared) (σ:St) (H:Hp) (Q:List V→Hp→Prop),Inv X pins σ H s→t σ H Q→wpAny (model X.prog X.w) X.A (spliced (backTo pos (starEach es X.env))) (AP X pins σ Q) X.xe s
def PS (X:Cx) (st:Stmt) (t:TS):Prop :=
 ∀ (pins:List (Addr × Obj)) (s:Shared) (σ:St) (H:Hp) (D:Ends),Inv X pins σ H s→t D σ H→wpAny (model X.prog X.w) X.A (exec st X.env) (SP X pins D) X.xe s
def PSs (X:Cx) (st:List Stmt) (t:TS):Prop :=
 ∀ (pins:List (Addr × Obj)) (s:Shared) (σ:St) (H:Hp) (D:Ends),Inv X pins σ H s→t D σ H→wpAny (model X.prog X.w) X.A (execs st X.env) (SP X pins D) X.xe s
theorem thn {α:Type}{t:Sem α}{Q Q':α→Shared→Prop}{M:Model}{A:Around}{E:Value→Shared→Prop}{s:Shared} (h:wpAny M A t Q E s) (hQ:∀ a s,Q a s→Q' a s):wpAny M A t Q' E s:=wpAny_mono h hQ fun _ _ x=>x
section
variable {X:Cx}
def tVar (i:Nat):TE:=fun σ H Q=>∃ v,σ[i]?=some (some v)∧Q v H
def tC (v:V):TE:=fun _ H Q=>Q v H
theorem pe_var {i:Nat}{x:Str}{pos:Pos} (hN:X.N[i]?=some x) (hv:Vis X.env.scope x) (hd:(x == ("__debug__":Str))=false:=by decide) (hcd:(x == ("__classdict__":Str))=false:=by decide):PE X (.Name x pos) (tVar i):=by
 intro pins s σ H Q I h
 obtain⟨v,e,h⟩:=h
 obtain⟨m,hn,hl⟩:=I.loc
 obtain⟨u,r,l⟩:=hl i x v hN e hv
 have fin:EP X pins σ Q u s:=⟨v,H,I,r,h⟩
 rcases l with⟨hk,hm⟩ | ⟨hk,c,hc,hcell⟩
 ·exact wpAny_Name (wpAny_loadName_local I.ok.kind hk hn hm fin) hd
 ·rcases hk with hk | hk
  ·exact wpAny_Name (wpAny_loadName_cell I.ok.kind hk hc hcell fin) hd
  ·exact wpAny_Name (wpAny_loadName_free I.ok.kind hk hc hcell fin hcd) hd
theorem j09 {i j pos}:PE X (.Constant (.int i) j pos) (tC (.int i)):=fun _ _ _ H _ I h=>wpAny_Constant_int ⟨.int i,H,I.tok _,⟨_,rfl⟩,h⟩
theorem jad {b j pos}:PE X (.Constant (.bool b) j pos) (tC (.bl b)):=fun _ _ _ H _ I h=>Constant_bool ⟨.bl b,H,I,rfl,h⟩
theorem j3r {j pos}:PE X (.Constant .none j pos) (tC .non):=fun _ _ _ H _ I h=>Constant_none ⟨.non,H,I,rfl,h⟩
theorem pe_str {x j pos}:PE X (.Constant (.str x) j pos) (tC (.str x)):=fun _ _ _ H _ I h=>Calls.Constant_str ⟨.str x,H,I.tok _,⟨_,rfl⟩,h⟩
def Gl (X:Cx) (x:Str):Prop:=X.env.kindOf x=some .globalImplicit
theorem j3c {E:Value→Shared→Prop}{pins:List (Addr × Obj)}{s:Shared}{σ:St}{H:Hp}{x:Str}{u:Value}{pos:Pos}{Q:Value→Shared→Prop} (I:Inv X pins σ H s) (hg:Gl X x) (hm:X.mg x=some u) (h:Q u s)
  (hd:(x == ("__debug__":Str))=false:=by decide):wpAny (model X.prog X.w) X.A (eval (.Name x pos) X.env) Q E s :=
 Calls.Name_function_global I.ok.kind hg (Calls.loadGlobal_global (by rw[I.ok.glob];exact I.mod.glob.keeps I.bk) hm h) hd
theorem j25 {E:Value→Shared→Prop}{pins:List (Addr × Obj)}{s:Shared}{σ:St}{H:Hp}{x:Str}{u:Value}{pos:Pos}{Q:Value→Shared→Prop} (I:Inv X pins σ H s) (hg:Gl X x) (hm:X.mg x=none) (hv:bootBuiltins x=some u) (h:Q u s)
  (hn:x≠"__name__":=by decide) (hd:(x == ("__debug__":Str))=false:=by decide):wpAny (model X.prog X.w) X.A (eval (.Name x pos) X.env) Q E s:=by
 obtain⟨mb,h1,h2⟩:=I.mod.blt
 exact Calls.Name_function_global I.ok.kind hg (Calls.loadGlobal_builtin (by rw[I.ok.glob];exact I.mod.glob.keeps I.bk) hm (by rw[I.ok.blt];exact h1.keeps I.bk) ((h2 x hn).trans hv) h) hd
theorem j3d {x:Str}{v:V}{u:Value}{pos:Pos} (hg:Gl X x) (hm:X.mg x=some u) (r:RelV v u) (hd:(x == ("__debug__":Str))=false:=by decide):PE X (.Name x pos) (tC v) :=
 fun _ _ _ H _ I h=>j3c I hg hm ⟨v,H,I,r,h⟩ hd
theorem j19 {x:Str}{v:V}{u:Value}{pos:Pos} (hg:Gl X x) (hm:X.mg x=none) (hv:bootBuiltins x=some u) (r:RelV v u) (hn:x≠"__name__":=by decide) (hd:(x == ("__debug__":Str))=false:=by decide):PE X (.Name x pos) (tC v) :=
 fun _ _ _ H _ I h=>j25 I hg hm hv ⟨v,H,I,r,h⟩ hn hd
variable {a b:Expr}{ta tb:TE}{pos:Pos}
variable {tA tB':TT}{rest:List Expr}
def tAnd (t u:TT):TT:=fun σ H Q=>t σ H fun c H1=>if c=true then u σ H1 Q else Q false H1
def tOr (t u:TT):TT:=fun σ H Q=>t σ H fun c H1=>if c=true then Q true H1 else u σ H1 Q
def tNot (t:TT):TT:=fun σ H Q=>t σ H fun c H1=>Q (!c) H1
theorem jc3 (ha:PT X a tA):PW X (.BoolOp .And [a] pos) tA:=by
 intro wh pins s σ H Q I h
 refine isTrue_and (thn (ha pins s σ H Q I h) fun c s1 e=>?_)
 cases c with
 | true=>exact isTrue_and_nil e
 | false=>exact e
theorem jfp (ha:PT X a tA):PW X (.BoolOp .Or [a] pos) tA:=by
 intro wh pins s σ H Q I h
 refine isTrue_or (thn (ha pins s σ H Q I h) fun c s1 e=>?_)
 cases c with
 | false=>exact isTrue_or_nil e
 | true=>exact e
theorem jfq (ha:PT X a tA) (hb:PW X (.BoolOp .And (b :: rest) pos) tB'):PW X (.BoolOp .And (a :: b :: rest) pos) (tAnd tA tB'):=by
 intro wh pins s σ H Q I h
 refine isTrue_and (thn (ha pins s σ H _ I h) fun c s1 ⟨H1,I1,q1⟩=>?_)
 cases c with
 | true=>exact hb wh pins s1 σ H1 Q I1 q1
 | false=>exact⟨H1,I1,q1⟩
theorem pw_or (ha:PT X a tA) (hb:PW X (.BoolOp .Or (b :: rest) pos) tB'):PW X (.BoolOp .Or (a :: b :: rest) pos) (tOr tA tB'):=by
 intro wh pins s σ H Q I h
 refine isTrue_or (thn (ha pins s σ H _ I h) fun c s1 ⟨H1,I1,q1⟩=>?_)
 cases c with
 | true=>exact⟨H1,I1,q1⟩
 | false=>exact hb wh pins s1 σ H1 Q I1 q1
theorem jd3 (ha:PT X a tA):PT X (.UnaryOp .Not a pos) (tNot tA):=by
 intro pins s σ H Q I h
 exact isTrue_not (ha pins s σ H (fun c H1=>Q (!c) H1) I h)
def tAndV (ta tb:TE):TE:=fun σ H Q=>ta σ H fun x H1=>∃ c,x=.bl c∧if c=true then tb σ H1 Q else Q (.bl false) H1
def tNotV (ta:TE):TE:=fun σ H Q=>ta σ H fun x H1=>∃ c,x=.bl c∧Q (.bl (!c)) H1
theorem j35 {op}{t:TE} (h:PE X a t):PE X (.BoolOp op [a] pos) t:=fun pins s σ H Q I hw=>BoolOp_one (h pins s σ H Q I hw)
theorem j26 (ha:PE X a ta) (hb:PE X (.BoolOp .And (b :: rest) pos) tb):PE X (.BoolOp .And (a :: b :: rest) pos) (tAndV ta tb):=by
 intro pins s σ H Q I h
 refine BoolOp_and (thn (ha pins s σ H _ I h) fun v s1 ⟨x,H1,I1,r1,q1⟩=>?_)
 obtain⟨c,rfl,q1⟩:=q1
 cases r1
 refine wpAny_truthy_bool ?_
 cases c with
 | true=>exact hb pins s1 σ H1 Q I1 q1
 | false=>exact⟨.bl false,H1,I1,rfl,q1⟩
theorem pe_not (ha:PE X a ta):PE X (.UnaryOp .Not a pos) (tNotV ta):=by
 intro pins s σ H Q I h
 refine UnaryOp_ (thn (ha pins s σ H _ I h) fun v s1 ⟨x,H1,I1,r1,q1⟩=>?_)
 obtain⟨c,rfl,q1⟩:=q1
 cases r1
 exact not_of (wpAny_truthy_bool ⟨.bl (!c),H1,I1,rfl,q1⟩)
def tIf (t:TT) (ta tb:TE):TE:=fun σ H Q=>t σ H fun c H1=>if c=true then ta σ H1 Q else tb σ H1 Q
theorem j7y {c:Expr} (hc:PT X c tA) (ha:PE X a ta) (hb:PE X b tb):PE X (.IfExp c a b pos) (tIf tA ta tb):=by
 intro pins s σ H Q I h
 refine wpAny_IfExp (thn (hc pins s σ H _ I h) fun d s1 ⟨H1,I1,q1⟩=>?_)
 cases d with
 | true=>exact ha pins s1 σ H1 Q I1 q1
 | false=>exact hb pins s1 σ H1 Q I1 q1
end
def SqL (K:PySem.W.Frag) (H:Hp) (a:Addr) (xs:List V):Prop :=
 Rd H a (.lst xs) ∨
  ∃ (o:Obj) (its:Array Value) (n:Nat),K.lookup a=some o∧o.cls=.type "list"∧o.dict=none∧o.data=.seq its n∧its.size≤sizeLine∧Vals xs its.toList
def SqT (K:PySem.W.Frag) (H:Hp) (a:Addr) (xs:List V):Prop :=
 Rd H a (.tup xs) ∨
  ∃ (o:Obj) (its:Array Value) (n:Nat),K.lookup a=some o∧o.cls=.type "tuple"∧o.data=.seq its n∧its.size≤sizeLine∧Vals xs its.toList
def absV:Value→Option V
 | .none=>some .non
 | .bool b=>some (.bl b)
 | .int i _=>some (.int i)
 | .str x _=>some (.str x)
 | .bytes b _=>some (.byt b)
 | .float b _=>some (.flt b)
 | .ref a=>some (.ref a)
 | .type n=>some (.ty n)
 | _=>none
theorem RelV.abs {x:V}{u:Value} (r:RelV x u):absV u=some x:=by
 cases x with
 | non=>cases r;rfl
 | bl _=>cases r;rfl
 | int _=>obtain⟨t,rfl⟩:=r;rfl
 | str _=>obtain⟨t,rfl⟩:=r;rfl
 | byt _=>obtain⟨t,rfl⟩:=r;rfl
 | flt _=>obtain⟨t,rfl⟩:=r;rfl
 | ref _=>cases r;rfl
 | ty _=>cases r;rfl
theorem RelV.inj {x y:V}{u:Value} (r:RelV x u) (q:RelV y u):x=y:=Option.some.inj (r.abs.symm.trans q.abs)
theorem Vals.inj:∀ {xs ys:List V}{us:List Value},Vals xs us→Vals ys us→xs=ys
 | _,_,_,.nil,.nil=>rfl
 | _,_,_,.cons r t,.cons r' t'=>by rw[r.inj r',Vals.inj t t']
section
variable {X:Cx}{pins:List (Addr × Obj)}{σ:St}{H:Hp}{s:Shared}{a:Addr}{xs ys:List V}
theorem SqL.of {K:PySem.W.Frag} (h:H a=some (.lst xs)):SqL K H a xs:=.inl (.inl h)
theorem SqT.of {K:PySem.W.Frag} (h:H a=some (.tup xs)):SqT K H a xs:=.inl (.inl h)
theorem Inv.list (I:Inv X pins σ H s) (h:SqL X.K H a xs):∃ its:List Value,Vals xs its∧PlainL s.heap a its.toArray∧xs.length≤sizeLine:=by
 rcases h with h | ⟨o,its,n,hk,hc,hd,hs,hz,r⟩
 ·obtain⟨z,its,n,r,e⟩:=h.ok I.hok
  exact⟨its,r,⟨_,n,e,rfl,rfl,rfl⟩,z⟩
 ·refine⟨its.toList,r,⟨o,n,I.kIn a o hk,hc,hd,by simpa using hs⟩,?_⟩
  have e:=r.length
  simp only[Array.length_toList] at e
  omega
theorem Inv.tuple (I:Inv X pins σ H s) (h:SqT X.K H a xs):∃ its:List Value,Vals xs its∧IsTup s.heap a its.toArray∧xs.length≤sizeLine:=by
 rcases h with h | ⟨o,its,n,hk,hc,hs,hz,r⟩
 ·obtain⟨z,its,r,p⟩:=h.ok I.hok
  exact⟨its,r,p.1,z⟩
 ·refine⟨its.toList,r,⟨o,I.kIn a o hk,hc,n,by simpa using hs⟩,?_⟩
  have e:=r.length
  simp only[Array.length_toList] at e
  omega
theorem Inv.list_inj (I:Inv X pins σ H s) (h:SqL X.K H a xs) (h':SqL X.K H a ys):xs=ys:=by
 obtain⟨its,r,⟨o,n,e,_,_,d⟩,_⟩:=I.list h
 obtain⟨its',r',⟨o',n',e',_,_,d'⟩,_⟩:=I.list h'
 rw[e] at e';cases e'
 rw[d] at d'
 injection d' with d1 _
 have:its=its':=by simpa using congrArg Array.toList d1
 subst this
 exact r.inj r'
theorem Inv.tuple_inj (I:Inv X pins σ H s) (h:SqT X.K H a xs) (h':SqT X.K H a ys):xs=ys:=by
 obtain⟨its,r,⟨o,e,_,n,d⟩,_⟩:=I.tuple h
 obtain⟨its',r',⟨o',e',_,n',d'⟩,_⟩:=I.tuple h'
 rw[e] at e';cases e'
 rw[d] at d'
 injection d' with d1 _
 have:its=its':=by simpa using congrArg Array.toList d1
 subst this
 exact r.inj r'
end
abbrev Cx.wish (X:Cx) (E:Value→Shared→Prop):Cx:={ X with xe:=E }
abbrev Cx.nox (X:Cx):Cx:=X.wish fun _ _=>False
theorem Cx.Ok.wish {X:Cx} (ok:X.Ok) (E:Value→Shared→Prop):(X.wish E).Ok :=
 ⟨ok.mod,ok.kind,ok.glob,ok.blt,ok.above,ok.inj,ok.has,ok.cab,ok.hd,ok.frames,ok.stk,ok.exf,ok.bs,ok.bsz,ok.noex,ok.exfs,ok.funs,ok.frf⟩
theorem Cx.Ok.unwish {X:Cx}{E:Value→Shared→Prop} (ok:(X.wish E).Ok):X.Ok :=
 ⟨ok.mod,ok.kind,ok.glob,ok.blt,ok.above,ok.inj,ok.has,ok.cab,ok.hd,ok.frames,ok.stk,ok.exf,ok.bs,ok.bsz,ok.noex,ok.exfs,ok.funs,ok.frf⟩
section
variable {X:Cx}{pins:List (Addr × Obj)}{σ:St}{H:Hp}{s:Shared}{E:Value→Shared→Prop}
theorem Inv.wish (I:Inv X pins σ H s) (E:Value→Shared→Prop):Inv (X.wish E) pins σ H s:=⟨I.ok.wish E,I.os,I.bare,I.base,I.loc,I.cell,I.free,I.freeC,I.pin,I.hok,I.len⟩
theorem Inv.unwish (I:Inv (X.wish E) pins σ H s):Inv X pins σ H s:=⟨I.ok.unwish,I.os,I.bare,I.base,I.loc,I.cell,I.free,I.freeC,I.pin,I.hok,I.len⟩
theorem SP.unwish {D:Ends}{f:Flow}{s':Shared} (h:SP (X.wish E) pins D f s'):SP X pins D f s':=by
 cases f with
 | next=>obtain⟨σ',H',I,q⟩:=h;exact⟨σ',H',I.unwish,q⟩
 | brk=>obtain⟨σ',H',I,q⟩:=h;exact⟨σ',H',I.unwish,q⟩
 | cont=>obtain⟨σ',H',I,q⟩:=h;exact⟨σ',H',I.unwish,q⟩
 | ret u=>obtain⟨v,σ',H',I,r,q⟩:=h;exact⟨v,σ',H',I.unwish,r,q⟩
theorem PSs.nox {st:List Stmt}{t:TS} (h:PSs X.nox st t):PSs X st t:=fun pins s σ H D I hw =>
 wpAny_mono (h pins s σ H D (I.wish _) hw) (fun _ _ q=>q.unwish) fun _ _ z=>False.elim z
end
section
variable {X:Cx}{st:Stmt}{rest:List Stmt}{t u:TS}{e:Expr}{te:TE}{pos:Pos}
def tNext:TS:=fun D σ H=>D.nx σ H
def tSeq (t u:TS):TS:=fun D σ H=>t { D with nx:=u D } σ H
theorem j0h:PSs X [] tNext:=fun _ _ σ H _ I h=>wpAny_execs_nil ⟨σ,H,I,h⟩
theorem j03 (h1:PS X st t) (h2:PSs X rest u):PSs X (st :: rest) (tSeq t u):=by
 intro pins s σ H D I h
 refine wpAny_execs_cons (thn (h1 pins s σ H { D with nx:=u D } I h) fun f s1 q=>?_)
 cases f with
 | next =>
  obtain⟨σ',H',I',q⟩:=q
  exact h2 pins s1 σ' H' D I' q
 | ret v=>exact q
 | brk=>exact q
 | cont=>exact q
theorem j06 (h1:PS X st t):PSs X [st] t:=by
 intro pins s σ H D I h
 refine wpAny_execs_cons (thn (h1 pins s σ H D I h) fun f s1 q=>?_)
 cases f with
 | next=>exact wpAny_execs_nil q
 | ret v=>exact q
 | brk=>exact q
 | cont=>exact q
theorem Inv.quiet {pins:List (Addr × Obj)}{σ:St}{H:Hp}{s:Shared} (I:Inv X pins σ H s):interactive X.env=false:=by simp[interactive,I.ok.kind]
def jjt (te:TE):TS:=fun D σ H=>te σ H fun _ H1=>D.nx σ H1
theorem j3e (he:PE X e te) (hs:swapsWith e none pos.line X.env=pure false:=by rfl):PS X (.Expr e pos) (jjt te):=by
 intro pins s σ H D I h
 exact wpAny_Expr_any (thn (he pins s σ H _ I h) fun v s1 ⟨x,H1,I1,r1,q1⟩=>⟨σ,H1,I1,q1⟩) I.quiet hs
def tRet (te:TE):TS:=fun D σ H=>te σ H D.rt
theorem j0d (he:PE X e te):PS X (.Return (some e) pos) (tRet te):=by
 intro pins s σ H D I h
 exact wpAny_Return_some (thn (he pins s σ H _ I h) fun v s1 ⟨x,H1,I1,r1,q1⟩=>⟨x,σ,H1,I1,r1,q1⟩)
def tIfS (c:TT) (t u:TS):TS:=fun D σ H=>c σ H fun b H1=>if b=true then t D σ H1 else u D σ H1
theorem j2l {c:Expr}{a b:List Stmt}{tc:TT} (hc:PT X c tc) (ha:PSs X a t) (hb:PSs X b u):PS X (.If c a b pos) (tIfS tc t u):=by
 intro pins s σ H D I h
 refine wpAny_If (thn (hc pins s σ H _ I h) fun d s1 ⟨H1,I1,q1⟩=>?_)
 cases d with
 | true=>exact ha pins s1 σ H1 D I1 q1
 | false=>exact hb pins s1 σ H1 D I1 q1
def tNever:TS:=fun _ _ _=>False
theorem jd4:PS X st tNever:=fun _ _ _ _ _ _ h=>h.elim
end
abbrev TG:=V→St→Hp→(St→Hp→Prop)→Prop
abbrev TGs:=List V→St→Hp→(St→Hp→Prop)→Prop
def PG (X:Cx) (target:Expr) (t:TG):Prop :=
 ∀ (pins:List (Addr × Obj)) (s:Shared) (σ:St) (H:Hp) (v:V) (u:Value) (Q:St→Hp→Prop),Inv X pins σ H s→RelV v u→t v σ H Q →
  wpAny (model X.prog X.w) X.A (assign target X.env u) (fun _ s'=>∃ σ' H',Inv X pins σ' H' s'∧Q σ' H') X.xe s
def PGs (X:Cx) (ts:List Expr) (t:TGs):Prop :=
 ∀ (pins:List (Addr × Obj)) (s:Shared) (σ:St) (H:Hp) (vs:List V) (us:List Value) (Q:St→Hp→Prop),Inv X pins σ H s→Vals vs us→t vs σ H Q →
  wpAny (model X.prog X.w) X.A (assignInOrder ((assignEach ts X.env).map (·.2)) us) (fun _ s'=>∃ σ' H',Inv X pins σ' H' s'∧Q σ' H') X.xe s
section
variable {X:Cx}{pos:Pos}
def ja7 (i:Nat):TG:=fun v σ H Q=>Q (σ.set i (some v)) H
theorem j0e {i:Nat}{x:Str} (hN:X.N.Nodup) (hi:X.N[i]?=some x) (hx:Loc X.env.scope x) (hf:X.fn x=true∨X.env.scope.names.lookup x=some .local:=by first | exact .inl rfl | exact .inr rfl | assumption):PG X (.Name x pos) (ja7 i):=by
 intro pins s σ H v u Q I r h
 exact wpAny_assign_Name (j3q I hN hi hx r (fun s' I'=>⟨_,H,I',h⟩) hf)
def gNil:TGs:=fun vs σ H Q=>vs=[]∧Q σ H
def jj9 (t:TG) (u:TGs):TGs:=fun vs σ H Q=>∃ v r,vs=v :: r∧t v σ H fun σ' H'=>u r σ' H' Q
theorem j7z:PGs X [] gNil:=by
 intro pins s σ H vs us Q I r h
 obtain⟨e,h⟩:=h
 subst e
 cases r
 exact assignInOrder_nil ⟨σ,H,I,h⟩
theorem j27 {e:Expr}{es:List Expr}{t:TG}{u:TGs} (h1:PG X e t) (h2:PGs X es u)
  (hs:(assignEach (e :: es) X.env).map (·.2)=assign e X.env :: (assignEach es X.env).map (·.2):=by rfl):PGs X (e :: es) (jj9 t u):=by
 intro pins s σ H vs us Q I r h
 obtain⟨v,vr,e1,h⟩:=h
 subst e1
 cases r with
 | cons r rr =>
  rw[hs]
  refine assignInOrder_cons (thn (h1 pins s σ H _ _ _ I r h) fun _ s1 ⟨σ1,H1,I1,q1⟩=>?_)
  exact h2 pins s1 σ1 H1 _ _ Q I1 rr q1
def gTup (K:PySem.W.Frag) (n:Nat) (t:TGs):TG:=fun v σ H Q=>∃ a xs,v=.ref a∧SqT K H a xs∧xs.length=n∧t xs σ H Q
theorem jd5 {es:List Expr}{k:Nat}{t:TGs}{n:Nat} (hc:X.calm=true) (h:PGs X es t)
  (hn:(assignEach es X.env).length=n:=by rfl) (hst:(assignEach es X.env).findIdx? (·.1)=none:=by rfl):PG X (.Tuple es k pos) (gTup X.K n t):=by
 intro pins s σ H v u Q I r hw
 obtain⟨a,xs,e1,hq,hl,hw⟩:=hw
 subst e1
 cases r
 obtain⟨its,rv,ht,hz⟩:=I.tuple hq
 refine assign_Tuple_tuple (I.ok.hd hc) ht (by simp[hn,← hl,rv.length]) hst fun h' hx=>?_
 have I1:Inv X pins σ H { s with heap:=h' }:=I.kept (t':=s.toks) fun b o e=>hx b o (Nat.ne_of_lt (Heap.lt_size e)) e
 exact h pins _ σ H xs _ Q I1 (by simpa using rv) hw
def tAsg (te:TE) (g:TG):TS:=fun D σ H=>te σ H fun x H1=>g x σ H1 D.nx
theorem j0n {i:Nat}{x:Str}{e:Expr}{te:TE}{pos':Pos} (hN:X.N.Nodup) (hi:X.N[i]?=some x) (hx:Loc X.env.scope x) (he:PE X e te) (hs:swapsWith e (some (.Name x pos')) pos.line X.env=pure false:=by rfl) (hf:X.fn x=true∨X.env.scope.names.lookup x=some .local:=by first | exact .inl rfl | exact .inr rfl | assumption) :
  PS X (.Assign [.Name x pos'] e pos) (tAsg te (ja7 i)):=by
 intro pins s σ H D I h
 refine wpAny_Assign_Name (thn (he pins s σ H _ I h) fun v s1 ⟨y,H1,I1,r1,q1⟩=>?_) hs
 exact j3q I1 hN hi hx r1 (fun s2 I2=>⟨_,H1,I2,q1⟩) hf
end
structure It where
 go:Nat→Hp→Prop
 yld:Nat→Hp→V→Hp→Prop
 stop:Nat→Hp→Prop
def FpOk (X:Cx) (pins:List (Addr × Obj)) (H:Hp) (b:Addr):Prop :=
 H b=none∧b≠X.env.locals∧b∉X.fs∧(b∈X.ex∨X.s₀.heap.objs.size≤b)∧(∀ x c,X.env.cells.lookup x=some c→c≠b)∧∀ p∈X.pn++pins,p.1≠b
theorem Inv.fpOk {X:Cx}{pins:List (Addr × Obj)}{σ:St}{H H':Hp}{s:Shared}{b:Addr} (I:Inv X pins σ H s) (hb:s.heap.objs.size≤b) (hn:H' b=none):FpOk X pins H' b:=by
 refine⟨hn,Nat.ne_of_gt (Nat.lt_of_lt_of_le I.lt hb),I.nofs hb,.inr (Nat.le_trans I.sz hb),fun x c e z=>?_,fun p hp z=>?_⟩
 ·obtain⟨v,q⟩:=I.cell x c e
  exact absurd (Nat.lt_of_lt_of_le q.lt (by rw[z];exact hb)) (Nat.lt_irrefl _)
 ·exact absurd (Nat.lt_of_lt_of_le (Heap.lt_size (I.pin p hp).1) (by rw[z];exact hb)) (Nat.lt_irrefl _)
structure Turn (P:Program) (w:World) (K:PySem.W.Frag) (tg:Expr) (J:It) (fp:List Addr) (it:Addr) (tn:Nat→Heap→Prop):Prop where
 mem:it∈fp
 obj:∀ i h,tn i h→∀ b∈fp,∃ o,h.get? b=some o∧∀ v,o.data≠.cell v
 keep:∀ i h h',tn i h→(∀ b∈fp,∀ o,h.get? b=some o→h'.get? b=some o)→tn i h'
 item:∀ (X:Cx),X.prog=P→X.w=w→X.K=K→X.calm=true→∀ (i:Nat) (pins:List (Addr × Obj)) (s:Shared) (σ:St) (H:Hp) (E:Value→Shared→Prop),Inv X pins σ H s→(∀ b∈fp,FpOk X pins H b)→tn i s.heap→J.go i H →
  wpAny (model P w) X.A (pyNext (.ref it)) (fun r s1=>∃ u,r=some u ∧
   wpAny (model P w) X.A (letOwnedTupleGo tg (.ref it) u) (fun _ s2=>∃ x H',Inv X pins σ H' s2∧RelV x u∧J.yld i H x H'∧tn (i+1) s2.heap∧∀ b∈fp,H' b=none) E s1) E s
 done:∀ (X:Cx),X.prog=P→X.w=w→X.K=K→X.calm=true→∀ (i:Nat) (pins:List (Addr × Obj)) (s:Shared) (σ:St) (H:Hp) (E:Value→Shared→Prop),Inv X pins σ H s→(∀ b∈fp,FpOk X pins H b)→tn i s.heap→J.stop i H →
  wpAny (model P w) X.A (pyNext (.ref it)) (fun r s1=>r=none∧Inv X pins σ H s1) E s
 self:∀ (A:Around) (i:Nat) (s:Shared) (Q:Value→Shared→Prop) (E:Value→Shared→Prop),tn i s.heap→Q (.ref it) s→wpAny (model P w) A (pyIter (.ref it)) Q E s
abbrev TI:=St→Hp→(It→Hp→Prop)→Prop
def PIE (X:Cx) (pins:List (Addr × Obj)) (σ:St) (tg:Expr) (R:It→Hp→Prop) (itv:Value) (s2:Shared):Prop :=
 ∃ (it:Addr) (fp:List Addr) (tn:Nat→Heap→Prop) (J:It) (H':Hp),itv=.ref it∧Inv X pins σ H' s2∧Turn X.prog X.w X.K tg J fp it tn∧tn 0 s2.heap∧(∀ b∈fp,FpOk X pins H' b)∧R J H'
def PI (X:Cx) (tg iter:Expr) (wi:TI):Prop :=
 ∀ (pins:List (Addr × Obj)) (s:Shared) (σ:St) (H:Hp) (R:It→Hp→Prop),Inv X pins σ H s→wi σ H R →
  wpAny (model X.prog X.w) X.A (eval iter X.env) (fun v s1=>wpAny (model X.prog X.w) X.A (pyIter v) (PIE X pins σ tg R) X.xe s1) X.xe s
theorem jja {M:Model}{A:Around}{E:Value→Shared→Prop}{s:Shared}{tg:Expr}{it:Addr}{u:Value}{o:Obj}{n:String}{vs:Array Value}{Q:Unit→Shared→Prop} (ho:s.heap.get? it=some o) (hc:o.cls=.type n) (hd:o.data=.fields vs)
  (hn:["enumerate","zip","dict_itemiterator","dict_reverseitemiterator","odict_iterator","itertools.zip_longest","itertools.pairwise"].contains n=false) (hQ:Q () s):wpAny M A (letOwnedTupleGo tg (.ref it) u) Q E s:=by
 unfold letOwnedTupleGo
 cases tg <;> first
  | exact wpAny_pure hQ
  | (cases u <;> first
    | exact wpAny_pure hQ
    | (refine wpAny_bind (wpAny_load ho ?_)
       rw[hc,hd]
       show wpAny M A (if (["enumerate","zip","dict_itemiterator","dict_reverseitemiterator","odict_iterator","itertools.zip_longest","itertools.pairwise"].contains n && vs[0]? == some (rawInt _))=true then _ else _) Q E s
       rw[if_neg (by intro h;rw[hn,Bool.false_and] at h;cases h)]
       exact wpAny_pure hQ))
def Itl (K:PySem.W.Frag) (a:Addr):It :=
 ⟨fun i H=>∃ xs x,SqL K H a xs∧xs[i]?=some x,fun i H x H'=>H'=H∧∀ xs,SqL K H a xs→xs[i]?=some x,fun i H=>∃ xs,SqL K H a xs∧xs.length≤i⟩
def Itr (lo:Int) (n:Nat):It:=⟨fun i _=>i < n,fun i H x H'=>H'=H∧x=.int (lo+i),fun i _=>n≤i⟩
theorem jae {P:Program}{w:World}{K:PySem.W.Frag}{tg:Expr} (a it:Addr):Turn P w K tg (Itl K a) [it] it (fun i h=>h.IsListIter it a i) where
 mem:=by simp
 obj:=fun i h st b hb=>by
  have e:b=it:=by simpa using hb
  subst e
  obtain⟨o,e,c,d⟩:=st
  exact⟨o,e,fun v z=>by rw[d] at z;cases z⟩
 keep:=fun i h h' st k=>st.at fun o e=>k it (by simp) o e
 item:=by
  intro X hP hw hK hc i pins s σ H E I hf st hg
  subst hP hw hK
  obtain⟨xs,x,hq,hx⟩:=hg
  obtain⟨its,rv,p,hz⟩:=I.list hq
  obtain⟨u,hu,ru⟩:=rv.get hx
  obtain⟨f0,f1,f2,f3,f4,f5⟩:=hf it (by simp)
  refine wpAny_pyNext_list_item st p.isList (x:=u) (by simpa using hu) fun h' st' sb=>?_
  have I1:Inv X pins σ H { s with heap:=h' }:=I.turned (t':=s.toks) (fun b o hb e=>(sb.2 b hb).trans e) f0 f1 f3 f4 f5
  obtain⟨o,e,c,d⟩:=id st'
  exact⟨u,rfl,jja (s:={ s with heap:=h' }) e c d (by decide) ⟨x,H,I1,ru,⟨rfl,fun ys hy=>by rw[I.list_inj hy hq];exact hx⟩,st',fun b hb=>(hf b hb).1⟩⟩
 done:=by
  intro X hP hw hK hc i pins s σ H E I hf st hg
  subst hP hw hK
  obtain⟨xs,hq,hx⟩:=hg
  obtain⟨its,rv,p,hz⟩:=I.list hq
  obtain⟨f0,f1,f2,f3,f4,f5⟩:=hf it (by simp)
  have hl:=rv.length
  exact wpAny_pyNext_list_end (I.ok.hd hc) st p.isList (by simp;omega) fun h' eb=>⟨rfl,I.turned (t':=s.toks) (fun b o hb e=>eb b o hb e) f0 f1 f3 f4 f5⟩
 self:=fun _ _ _ _ _ st h=>wpAny_pyIter_listiter st h
theorem j80 {P:Program}{w:World}{K:PySem.W.Frag}{tg:Expr} (it:Addr) (lo:Int) (n:Nat):Turn P w K tg (Itr lo n) [it] it (fun i h=>IsRangeIter h it (lo+(i:Nat) * 1) ((n:Int)-(i:Nat)) 1) where
 mem:=by simp
 obj:=fun i h st b hb=>by
  have e:b=it:=by simpa using hb
  subst e
  exact⟨_,st,fun v z=>by
   have z':Data.fields _=Data.cell v:=z
   cases z'⟩
 keep:=fun i h h' st k=>k it (by simp) _ st
 item:=by
  intro X hP hw hK hc i pins s σ H E I hf st hg
  subst hP hw hK
  obtain⟨f0,f1,f2,f3,f4,f5⟩:=hf it (by simp)
  have W:=Walks.range (prog:=X.prog) (w:=X.w) (I.ok.hd hc) it lo 1 n
  refine W.item i s _ _ hg st fun v h' tk hv st' kk=>?_
  obtain⟨t,rfl⟩:=hv
  have I1:Inv X pins σ H { s with heap:=h',toks:=tk }:=I.turned (fun b o hb e=>kk b o (by simpa using hb) e) f0 f1 f3 f4 f5
  refine⟨_,rfl,jja (s:={ s with heap:=h',toks:=tk }) (n:="range_iterator") st' rfl rfl (by decide) ⟨.int (lo+i),H,I1,⟨t,?_⟩,⟨rfl,rfl⟩,st',fun b hb=>(hf b hb).1⟩⟩
  rw[Int.mul_one]
 done:=by
  intro X hP hw hK hc i pins s σ H E I hf st hg
  subst hP hw hK
  obtain⟨f0,f1,f2,f3,f4,f5⟩:=hf it (by simp)
  exact wpAny_pyNext_range_end (I.ok.hd hc) st (by have:n≤i:=hg;omega) fun h' eb=>⟨rfl,I.turned (t':=s.toks) (fun b o hb e=>eb b o hb e) f0 f1 f3 f4 f5⟩
 self:=fun _ _ _ _ _ st h=>wpAny_pyIter_rangeiter st h
section
variable {X:Cx}{tg:Expr}
def iList (K:PySem.W.Frag) (tl:TE):TI:=fun σ H R=>tl σ H fun x H1=>∃ a,x=.ref a∧(∃ xs,SqL K H1 a xs)∧R (Itl K a) H1
theorem j1l {l:Expr}{tl:TE} (hl:PE X l tl):PI X tg l (iList X.K tl):=by
 intro pins s σ H R I h
 refine thn (hl pins s σ H _ I h) fun v s1 ⟨x,H1,I1,r1,q1⟩=>?_
 obtain⟨a,e,⟨xs,hq⟩,q⟩:=q1
 subst e
 cases r1
 obtain⟨its,rv,p,hz⟩:=I1.list hq
 refine wpAny_pyIter_list p.isList ?_
 refine⟨s1.heap.objs.size,[s1.heap.objs.size],_,_,H1,rfl,I1.kept (t':=s1.toks) fun b o e=>Heap.get?_push_of_some _ e,jae a _,⟨_,Heap.get?_push_size _ rfl,rfl,rfl⟩,fun b hb=>?_,q⟩
 have e:b=s1.heap.objs.size:=by simpa using hb
 subst e
 exact I1.fpOk (Nat.le_refl _) (I1.hok.fresh (Nat.le_refl _))
theorem jd6 {pins:List (Addr × Obj)}{σ:St}{H:Hp}{s:Shared}{R:It→Hp→Prop}{E:Value→Shared→Prop}{lo hi:Int}{t u v:Tok}{tk:Nat} (I:Inv X pins σ H s) (h1:-(2 ^ 62)≤lo) (h2:lo < 2 ^ 62) (h3:-(2 ^ 62)≤hi) (h4:hi < 2 ^ 62)
  (q:R (Itr lo (hi-lo).toNat) H):wpAny (model X.prog X.w) X.A (pyIter (.ref s.heap.objs.size)) (PIE X pins σ tg R) E { s with heap:=s.heap.push { cls:=.type "range",data:=.fields #[.int lo t,.int hi u,.int 1 v] },toks:=tk }:=by
 refine wpAny_pyIter_range (IsRange.new ..) (small_one h1 h2 h3 h4) ?_
 have I1:Inv X pins σ H { s with heap:=s.heap.push { cls:=.type "range",data:=.fields #[.int lo t,.int hi u,.int 1 v] },toks:=tk }:=I.kept fun b o e=>Heap.get?_push_of_some _ e
 refine⟨(s.heap.push { cls:=.type "range",data:=.fields #[.int lo t,.int hi u,.int 1 v] }).objs.size,[(s.heap.push { cls:=.type "range",data:=.fields #[.int lo t,.int hi u,.int 1 v] }).objs.size],_,_,H,rfl,
  I1.kept (t':=tk) fun b o e=>Heap.get?_push_of_some _ e,j80 _ lo (hi-lo).toNat,?_,fun b hb=>?_,q⟩
 ·have e1:lo+((0:Nat):Int) * 1=lo:=by simp
  have e2:(((hi-lo).toNat:Nat):Int)-((0:Nat):Int)=Builtin.Range.rangeSize lo hi 1:=by rw[rangeSize_one];split <;> omega
  show IsRangeIter _ _ (lo+((0:Nat):Int) * 1) ((((hi-lo).toNat:Nat):Int)-((0:Nat):Int)) 1
  rw[e1,e2]
  exact Heap.get?_push_size _ rfl
 ·have e:b=(s.heap.push { cls:=.type "range",data:=.fields #[.int lo t,.int hi u,.int 1 v] }).objs.size:=by simpa using hb
  subst e
  exact I1.fpOk (Nat.le_refl _) (I1.hok.fresh (Nat.le_refl _))
def iRng1 (ta:TA):TI:=fun σ H R=>ta σ H fun vs H1=>∃ j:Int,vs=[.int j]∧-(2 ^ 62)≤j∧j < 2 ^ 62∧R (Itr 0 j.toNat) H1
theorem j0w {a:Expr}{ta:TA}{p pos:Pos} (hg:Gl X "range") (hm:X.mg "range"=none) (ha:PA X [a] ta) (hs:starEach [a] X.env=[(false,eval a X.env)]:=by rfl):PI X tg (.Call (.Name "range" p) [a] [] pos) (iRng1 ta):=by
 intro pins s σ H R I h
 refine Call_ (j25 I hg hm boot_range (PyProof.Rows.callWith_type1 (thn (ha pos pins s σ H _ I h) fun us s1 ⟨vs,H1,I1,r1,q1⟩=>?_) hs rfl))
 obtain⟨j,e,q1,q2,q⟩:=q1
 subst e
 cases r1 with
 | cons r rr =>
  cases rr
  obtain⟨t,rfl⟩:=r
  exact call_range_1 (jd6 I1 (by omega) (by omega) q1 q2 (by simpa using q))
def tFor (wi:TI) (g:TG) (tb:TS):TS:=fun D σ H=>wi σ H fun J H1=>∃ W:Nat→Nat→St→Hp→Prop,(∃ m,W 0 m σ H1)∧∀ i m σ H,W i m σ H →
 (J.stop i H∧D.nx σ H)∨(J.go i H∧∃ N:St→Hp→Prop,(∀ σ' H',N σ' H'→∃ m',m' < m∧W (i+1) m' σ' H')∧∀ x H',J.yld i H x H'→g x σ H' fun σ2 H2=>tb { D with nx:=N,ct:=N,bk:=D.nx } σ2 H2)
def j81 (fp:List Addr) (h:Heap):List (Addr × Obj):=fp.filterMap fun b=>(h.get? b).map fun o=>(b,o)
theorem j1t {fp:List Addr}{h:Heap}{b:Addr}{o:Obj} (hb:b∈fp) (e:h.get? b=some o):(b,o)∈j81 fp h:=List.mem_filterMap.mpr ⟨b,hb,by rw[e];rfl⟩
theorem jaf {fp:List Addr}{h:Heap}{p:Addr × Obj} (hp:p∈j81 fp h):p.1∈fp∧h.get? p.1=some p.2:=by
 obtain⟨b,hb,e⟩:=List.mem_filterMap.mp hp
 cases q:h.get? b with
 | none=>rw[q] at e;cases e
 | some o =>
  rw[q] at e
  have e':(b,o)=p:=Option.some.inj e
  subst e'
  exact⟨hb,q⟩
theorem Inv.pinned {pins:List (Addr × Obj)}{σ:St}{H:Hp}{s:Shared}{fp:List Addr} (I:Inv X pins σ H s) (hf:∀ b∈fp,FpOk X pins H b) (ho:∀ b∈fp,∃ o,s.heap.get? b=some o∧∀ v,o.data≠.cell v):Inv X (pins++j81 fp s.heap) σ H s :=
 I.pins_of fun p hp=>(List.mem_append.mp hp).elim (fun z=>I.pin p (List.mem_append_right _ z)) fun z=>by
  obtain⟨hb,e⟩:=jaf z
  obtain⟨f0,f1,f2,_⟩:=hf p.1 hb
  obtain⟨o,e',d⟩:=ho p.1 hb
  rw[e] at e';cases e'
  exact⟨e,f0,f1,f2,d⟩
theorem Inv.unpinned {pins pl:List (Addr × Obj)}{σ:St}{H:Hp}{s:Shared} (I:Inv X (pins++pl) σ H s):Inv X pins σ H s:=I.pins_of fun p hp=>I.pin p (List.mem_append_right _ (List.mem_append_left _ hp))
theorem j3s {iter:Expr}{body:List Stmt}{wi:TI}{g:TG}{tb:TS}{pos:Pos} (hp:PassesOwn (model X.prog X.w) X.A X.env X.xe) (hc:X.calm=true) (hi:PI X tg iter wi) (hg:PG X tg g) (hb:PSs X body tb)
  (hs:∀ x,foldedSetIterable iter X.env x=pure x:=by intro _;rfl):PS X (.For tg iter body [] pos) (tFor wi g tb):=by
 intro pins s σ H D I h
 refine wpAny_For (thn (hi pins s σ H _ I h) fun v s1 h1=>thn h1 fun itv s2 h2=>?_) hs
 obtain⟨it,fp,tn,J,H2,e,I2,T,st2,f2,W,⟨m0,w0⟩,turn⟩:=h2
 subst e
 have stat:∀ {H':Hp},(∀ b∈fp,H' b=none)→∀ b∈fp,FpOk X pins H' b:=fun hn b hb=>⟨hn b hb,(f2 b hb).2⟩
 refine codeAny_forLoop_any (fun n s'=>∃ i σ' H',Inv X pins σ' H' s'∧tn i s'.heap∧(∀ b∈fp,H' b=none)∧W i n σ' H') ?_ m0 ⟨0,σ,H2,I2,st2,fun b hb=>(f2 b hb).1,w0⟩
 rintro n s3 ⟨i,σ3,H3,I3,st3,fr3,w3⟩
 rcases turn i n σ3 H3 w3 with⟨stop,qn⟩ | ⟨go,N,hN,step⟩
 ·refine wpAny_passesOwn hp (thn (T.done X rfl rfl rfl hc i pins s3 σ3 H3 X.xe I3 (stat fr3) st3 stop) fun r s4 ⟨hr,I4⟩=>?_)
  subst hr
  exact wpAny_execs_nil ⟨σ3,H3,I4,qn⟩
 ·refine wpAny_passesOwn hp (thn (T.item X rfl rfl rfl hc i pins s3 σ3 H3 X.xe I3 (stat fr3) st3 go) fun r s4 ⟨u,hr,h4⟩=>?_)
  subst hr
  refine wpAny_passesOwn hp (thn h4 fun _ s5 ⟨x,H5,I5,r5,y5,st5,fr5⟩=>?_)
  have I5':=I5.pinned (stat fr5) (T.obj _ _ st5)
  refine wpAny_passesOwn hp (thn (hg _ s5 σ3 H5 x u _ I5' r5 (step x H5 y5)) fun _ s6 ⟨σ6,H6,I6,q6⟩=>?_)
  refine wpAny_passesOwn hp (thn (hb _ s6 σ6 H6 _ I6 q6) fun f s7 q7=>?_)
  have again:∀ {σ7:St}{H7:Hp},Inv X (pins++j81 fp s5.heap) σ7 H7 s7→N σ7 H7→∃ m,m < n∧∃ i σ' H',Inv X pins σ' H' s7∧tn i s7.heap∧(∀ b∈fp,H' b=none)∧W i m σ' H':=fun {σ7 H7} I7 n7=>by
   obtain⟨m',hm,w7⟩:=hN σ7 H7 n7
   refine⟨m',hm,i+1,σ7,H7,I7.unpinned,T.keep _ _ _ st5 fun b hb o e=>(I7.pin (b,o) (List.mem_append_right _ (List.mem_append_right _ (j1t hb e)))).1,fun b hb=>?_,w7⟩
   obtain⟨o,e,d⟩:=T.obj _ _ st5 b hb
   exact (I7.pin (b,o) (List.mem_append_right _ (List.mem_append_right _ (j1t hb e)))).2.1
  cases f with
  | next=>obtain⟨σ7,H7,I7,n7⟩:=q7;exact again I7 n7
  | cont=>obtain⟨σ7,H7,I7,n7⟩:=q7;exact again I7 n7
  | brk=>obtain⟨σ7,H7,I7,q7⟩:=q7;exact⟨σ7,H7,I7.unpinned,q7⟩
  | ret v=>obtain⟨x7,σ7,H7,I7,r7,q7⟩:=q7;exact⟨x7,σ7,H7,I7.unpinned,r7,q7⟩
end
theorem j1r {K:PySem.W.Frag}{a:Addr}{xs:List V}{g:TG}{tb:TS}{D:Ends}{σ:St}{H:Hp} (Pv:Nat→St→Hp→Prop) (h0:Pv 0 σ H) (hl:∀ i σ H,i≤xs.length→Pv i σ H→SqL K H a xs)
  (hs:∀ i x σ H,xs[i]?=some x→Pv i σ H→g x σ H fun σ2 H2=>tb { D with nx:=Pv (i+1),ct:=Pv (i+1),bk:=D.nx } σ2 H2) (hd:∀ σ H,Pv xs.length σ H→D.nx σ H) :
  ∃ W:Nat→Nat→St→Hp→Prop,(∃ m,W 0 m σ H)∧∀ i m σ H,W i m σ H →
   ((Itl K a).stop i H∧D.nx σ H)∨((Itl K a).go i H∧∃ N:St→Hp→Prop,(∀ σ' H',N σ' H'→∃ m',m' < m∧W (i+1) m' σ' H')∧∀ x H',(Itl K a).yld i H x H'→g x σ H' fun σ2 H2=>tb { D with nx:=N,ct:=N,bk:=D.nx } σ2 H2):=by
 refine⟨fun i m σ H=>m=xs.length-i∧i≤xs.length∧Pv i σ H,⟨xs.length,by simp,Nat.zero_le _,h0⟩,?_⟩
 rintro i m σ H ⟨rfl,hi,p⟩
 have q:=hl i σ H hi p
 by_cases hlt:i < xs.length
 ·refine .inr ⟨⟨xs,xs[i],q,by simp[hlt]⟩,Pv (i+1),fun σ' H' p'=>⟨xs.length-(i+1),by omega,rfl,hlt,p'⟩,fun x H' y=>?_⟩
  obtain⟨e,y⟩:=y
  subst e
  exact hs i x σ _ (y xs q) p
 ·have e:i=xs.length:=by omega
  subst e
  exact .inl ⟨⟨xs,q,Nat.le_refl _⟩,hd σ H p⟩
theorem j6c {lo:Int}{n:Nat}{g:TG}{tb:TS}{D:Ends}{σ:St}{H:Hp} (Pv:Nat→St→Hp→Prop) (h0:Pv 0 σ H)
  (hs:∀ i σ H,i < n→Pv i σ H→g (.int (lo+i)) σ H fun σ2 H2=>tb { D with nx:=Pv (i+1),ct:=Pv (i+1),bk:=D.nx } σ2 H2) (hd:∀ σ H,Pv n σ H→D.nx σ H) :
  ∃ W:Nat→Nat→St→Hp→Prop,(∃ m,W 0 m σ H)∧∀ i m σ H,W i m σ H →
   ((Itr lo n).stop i H∧D.nx σ H)∨((Itr lo n).go i H∧∃ N:St→Hp→Prop,(∀ σ' H',N σ' H'→∃ m',m' < m∧W (i+1) m' σ' H')∧∀ x H',(Itr lo n).yld i H x H'→g x σ H' fun σ2 H2=>tb { D with nx:=N,ct:=N,bk:=D.nx } σ2 H2):=by
 refine⟨fun i m σ H=>m=n-i∧i≤n∧Pv i σ H,⟨n,by simp,Nat.zero_le _,h0⟩,?_⟩
 rintro i m σ H ⟨rfl,hi,p⟩
 by_cases hlt:i < n
 ·refine .inr ⟨hlt,Pv (i+1),fun σ' H' p'=>⟨n-(i+1),by omega,rfl,hlt,p'⟩,fun x H' y=>?_⟩
  obtain⟨e,y⟩:=y
  subst e y
  exact hs i σ _ hlt p
 ·have e:i=n:=by omega
  subst e
  exact .inl ⟨Nat.le_refl _,hd σ H p⟩
abbrev R2:=V→V→Hp→VK→Prop
def OpR (X:Cx) (f:Value→Value→Sem Value) (r:R2):Prop :=
 ∀ (pins:List (Addr × Obj)) (s:Shared) (σ:St) (H:Hp) (x y:V) (v u:Value) (Q:VK),Inv X pins σ H s→RelV x v→RelV y u→r x y H Q →
  wpAny (model X.prog X.w) X.A (f v u) (EP X pins σ Q) X.xe s
def UnR (X:Cx) (f:Value→Sem Value) (r:V→Hp→VK→Prop):Prop :=
 ∀ (pins:List (Addr × Obj)) (s:Shared) (σ:St) (H:Hp) (x:V) (v:Value) (Q:VK),Inv X pins σ H s→RelV x v→r x H Q →
  wpAny (model X.prog X.w) X.A (f v) (EP X pins σ Q) X.xe s
def CallR (X:Cx) (f:Value) (r:List V→Hp→VK→Prop):Prop :=
 ∀ (pins:List (Addr × Obj)) (s:Shared) (σ:St) (H:Hp) (xs:List V) (us:List Value) (Q:VK),Inv X pins σ H s→Vals xs us→r xs H Q →
  wpAny (model X.prog X.w) X.A (call f us) (EP X pins σ Q) X.xe s
def TruR (X:Cx) (r:V→Hp→(Bool→Hp→Prop)→Prop):Prop :=
 ∀ (pins:List (Addr × Obj)) (s:Shared) (σ:St) (H:Hp) (x:V) (v:Value) (Q:Bool→Hp→Prop),Inv X pins σ H s→RelV x v→r x H Q →
  wpAny (model X.prog X.w) X.A (truthy v) (TP X pins σ Q) X.xe s
def tOp (r:R2) (ta tb:TE):TE:=fun σ H Q=>ta σ H fun x H1=>tb σ H1 fun y H2=>r x y H2 Q
def tUn (r:V→Hp→VK→Prop) (ta:TE):TE:=fun σ H Q=>ta σ H fun x H1=>r x H1 Q
def rI (C:Int→Int→Prop) (g:Int→Int→V):R2:=fun x y H Q=>∃ i j,x=.int i∧y=.int j∧C i j∧Q (g i j) H
def rI0 (g:Int→Int→V):R2:=fun x y H Q=>∃ i j,x=.int i∧y=.int j∧Q (g i j) H
def rU (g:Int→V):V→Hp→VK→Prop:=fun x H Q=>∃ i,x=.int i∧Q (g i) H
section
variable {X:Cx}{a b c:Expr}{ta tb tc:TE}{pos:Pos}
theorem binT (ha:PE X a ta) (hb:PE X b tb) {pins:List (Addr × Obj)}{s:Shared}{σ:St}{H:Hp}{R:V→V→Hp→Prop} (I:Inv X pins σ H s)
  (h:ta σ H fun x H1=>tb σ H1 fun y H2=>R x y H2) {Q:Value→Shared→Prop}{f:Value→Value→Sem Value}
  (hf:∀ v u s2 x y H2,Inv X pins σ H2 s2→RelV x v→RelV y u→R x y H2→wpAny (model X.prog X.w) X.A (f v u) Q X.xe s2) :
  wpAny (model X.prog X.w) X.A (eval a X.env) (fun v s₁=>wpAny (model X.prog X.w) X.A (eval b X.env) (fun u s₂=>wpAny (model X.prog X.w) X.A (f v u) Q X.xe s₂) X.xe s₁) X.xe s:=by
 refine thn (ha pins s σ H _ I h) fun v s1 ⟨x,H1,I1,r1,q1⟩=>?_
 refine thn (hb pins s1 σ H1 _ I1 q1) fun u s2 ⟨y,H2,I2,r2,q2⟩=>?_
 exact hf v u s2 x y H2 I2 r1 r2 q2
theorem j0l {op:Operator}{r:R2} (ho:OpR X (binaryOp op) r) (ha:PE X a ta) (hb:PE X b tb):PE X (.BinOp a op b pos) (tOp r ta tb):=by
 intro pins s σ H Q I h
 exact wpAny_BinOp (binT ha hb I h fun v u s2 x y H2 I2 rx ry q=>ho pins s2 σ H2 x y v u Q I2 rx ry q)
theorem jjv {op:UnaryOp}{r:V→Hp→VK→Prop} (ho:UnR X (unaryOp op) r) (ha:PE X a ta):PE X (.UnaryOp op a pos) (tUn r ta):=by
 intro pins s σ H Q I h
 exact UnaryOp_ (thn (ha pins s σ H _ I h) fun v s1 ⟨x,H1,I1,r1,q1⟩=>ho pins s1 σ H1 x v Q I1 r1 q1)
theorem opI {f:Value→Value→Sem Value}{C:Int→Int→Prop}{g:Int→Int→Int}
  (rule:∀ (i j:Int) (t u:Tok) (s:Shared) (Q:Value→Shared→Prop) (E:Value→Shared→Prop),C i j→Q (.int (g i j) s.toks) { s with toks:=s.toks+1 }→wpAny (model X.prog X.w) X.A (f (.int i t) (.int j u)) Q E s) :
  OpR X f (rI C fun i j=>.int (g i j)):=by
 intro pins s σ H x y v u Q I rx ry h
 obtain⟨i,j,rfl,rfl,hc,q⟩:=h
 obtain⟨t,rfl⟩:=rx
 obtain⟨t',rfl⟩:=ry
 exact rule i j t t' s _ _ hc ⟨.int (g i j),H,I.tok _,⟨_,rfl⟩,q⟩
theorem opI0 {f:Value→Value→Sem Value}{g:Int→Int→Int}
  (rule:∀ (i j:Int) (t u:Tok) (s:Shared) (Q:Value→Shared→Prop) (E:Value→Shared→Prop),Q (.int (g i j) s.toks) { s with toks:=s.toks+1 }→wpAny (model X.prog X.w) X.A (f (.int i t) (.int j u)) Q E s) :
  OpR X f (rI0 fun i j=>.int (g i j)):=by
 intro pins s σ H x y v u Q I rx ry h
 obtain⟨i,j,rfl,rfl,q⟩:=h
 obtain⟨t,rfl⟩:=rx
 obtain⟨t',rfl⟩:=ry
 exact rule i j t t' s _ _ ⟨.int (g i j),H,I.tok _,⟨_,rfl⟩,q⟩
theorem opB0 {f:Value→Value→Sem Value}{g:Int→Int→Bool}
  (rule:∀ (i j:Int) (t u:Tok) (s:Shared) (Q:Value→Shared→Prop) (E:Value→Shared→Prop),Q (.bool (g i j)) s→wpAny (model X.prog X.w) X.A (f (.int i t) (.int j u)) Q E s) :
  OpR X f (rI0 fun i j=>.bl (g i j)):=by
 intro pins s σ H x y v u Q I rx ry h
 obtain⟨i,j,rfl,rfl,q⟩:=h
 obtain⟨t,rfl⟩:=rx
 obtain⟨t',rfl⟩:=ry
 exact rule i j t t' s _ _ ⟨.bl (g i j),H,I,rfl,q⟩
def CPow (i j:Int):Prop:=0≤j∧j≤1000000∧i.natAbs < 2 ^ 64
theorem op_add:OpR X (binaryOp .Add) (rI0 fun i j=>.int (i+j)):=opI0 fun _ _ _ _ _ _ _ q=>add_int q
theorem op_sub:OpR X (binaryOp .Sub) (rI0 fun i j=>.int (i-j)):=opI0 fun _ _ _ _ _ _ _ q=>sub_int q
theorem j1j:OpR X (binaryOp .Mod) (rI (fun _ j=>0 < j) fun i j=>.int (i % j)):=opI fun i j _ _ _ _ _ hc q=>by
 have h1:(0:Int) < j:=hc
 exact mod_int' (by omega) (by rw[Int.fmod_eq_emod_of_nonneg i (by omega)];exact q)
theorem jd7:OpR X (binaryOp .Pow) (rI CPow fun i j=>.int (i ^ j.toNat)):=opI fun _ _ _ _ _ _ _ hc q=>pow_int_small hc.1 hc.2.1 hc.2.2 q
theorem unI {f:Value→Sem Value}{g:Int→Int}
  (rule:∀ (i:Int) (t:Tok) (s:Shared) (Q:Value→Shared→Prop) (E:Value→Shared→Prop),Q (.int (g i) s.toks) { s with toks:=s.toks+1 }→wpAny (model X.prog X.w) X.A (f (.int i t)) Q E s) :
  UnR X f (rU fun i=>.int (g i)):=by
 intro pins s σ H x v Q I rx h
 obtain⟨i,rfl,q⟩:=h
 obtain⟨t,rfl⟩:=rx
 exact rule i t s _ _ ⟨.int (g i),H,I.tok _,⟨_,rfl⟩,q⟩
theorem jd8:UnR X (unaryOp .USub) (rU fun i=>.int (-i)):=unI fun _ _ _ _ _ q=>neg_int q
end
def scal:V→V→Bool
 | .non,.non=>true | .non,.int _=>true | .int _,.non=>true | .non,.bl _=>true | .bl _,.non=>true | .non,.str _=>true | .str _,.non=>true
 | .int _,.int _=>true | .bl _,.bl _=>true | .str _,.str _=>true | .byt _,.byt _=>true
 | .int _,.str _=>true | .str _,.int _=>true | .bl _,.str _=>true | .str _,.bl _=>true
 | _,_=>false
def rEq:R2:=fun x y H Q=>scal x y=true∧Q (.bl (decide (x=y))) H
def rNe:R2:=fun x y H Q=>scal x y=true∧Q (.bl (!decide (x=y))) H
theorem jc4 {i j:Int}:decide (V.int i=V.int j)=(i == j):=by
 rw[Bool.eq_iff_iff]
 simp
theorem jfr {i j:Bool}:decide (V.bl i=V.bl j)=(i == j):=by
 rw[Bool.eq_iff_iff]
 simp
theorem jc5 {i j:Str}:decide (V.str i=V.str j)=(i == j):=by
 rw[Bool.eq_iff_iff]
 simp
theorem jc6 {i j:Array UInt8}:decide (V.byt i=V.byt j)=(i.toList == j.toList):=by
 rw[Bool.eq_iff_iff]
 cases i
 cases j
 simp
section
variable {X:Cx}{a b c:Expr}{ta tb tc:TE}{pos:Pos}
theorem j0k {pins:List (Addr × Obj)}{σ:St}{H:Hp}{s:Shared}{Q:VK}{k k':Bool} (I:Inv X pins σ H s) (q:Q (.bl k) H) (e:k=k'):EP X pins σ Q (.bool k') s:=by
 subst e
 exact⟨.bl k,H,I,rfl,q⟩
theorem op_eq:OpR X (compareOp .Eq) rEq:=by
 intro pins s σ H x y v u Q I rx ry h
 obtain⟨hs,q⟩:=h
 cases x with
 | non =>
  cases rx
  cases y with
  | non=>cases ry;exact PySem.EqNone.eq_none_none (j0k I q (by simp))
  | bl j=>cases ry;exact PySem.EqNone.eq_none_bool (j0k I q (by simp))
  | int j=>obtain⟨t',rfl⟩:=ry;exact PySem.EqNone.eq_none_int (j0k I q (by simp))
  | str j=>obtain⟨t',rfl⟩:=ry;exact PySem.EqNone.eq_none_str (j0k I q (by simp))
  | _=>exact absurd (show false=true from hs) Bool.false_ne_true
 | bl i =>
  cases rx
  cases y with
  | non=>cases ry;exact PySem.EqNone.eq_bool_none (j0k I q (by simp))
  | bl j=>cases ry;exact eq_bool (j0k I q jfr)
  | str j=>obtain⟨t',rfl⟩:=ry;exact PySem.EqMixed.eq_bool_str (j0k I q (by simp))
  | _=>exact absurd (show false=true from hs) Bool.false_ne_true
 | int i =>
  obtain⟨t,rfl⟩:=rx
  cases y with
  | non=>cases ry;exact PySem.EqNone.eq_int_none (j0k I q (by simp))
  | int j=>obtain⟨t',rfl⟩:=ry;exact eq_int (j0k I q jc4)
  | str j=>obtain⟨t',rfl⟩:=ry;exact PySem.EqMixed.eq_int_str (j0k I q (by simp))
  | _=>exact absurd (show false=true from hs) Bool.false_ne_true
 | str i =>
  obtain⟨t,rfl⟩:=rx
  cases y with
  | non=>cases ry;exact PySem.EqNone.eq_str_none (j0k I q (by simp))
  | bl j=>cases ry;exact PySem.EqMixed.eq_str_bool (j0k I q (by simp))
  | int j=>obtain⟨t',rfl⟩:=ry;exact PySem.EqMixed.eq_str_int (j0k I q (by simp))
  | str j=>obtain⟨t',rfl⟩:=ry;exact eq_str (j0k I q jc5)
  | _=>exact absurd (show false=true from hs) Bool.false_ne_true
 | byt i =>
  obtain⟨t,rfl⟩:=rx
  cases y with
  | byt j=>obtain⟨t',rfl⟩:=ry;exact PySem.W.eq_bytes (j0k I q jc6)
  | _=>exact absurd (show false=true from hs) Bool.false_ne_true
 | _=>cases y <;> exact absurd (show false=true from hs) Bool.false_ne_true
theorem jjy:OpR X (compareOp .NotEq) rNe:=by
 intro pins s σ H x y v u Q I rx ry h
 obtain⟨hs,q⟩:=h
 cases x with
 | non =>
  cases rx
  cases y with
  | non=>cases ry;exact PySem.EqNone.ne_none_none (j0k I q (by simp))
  | bl j=>cases ry;exact PySem.EqNone.ne_none_bool (j0k I q (by simp))
  | int j=>obtain⟨t',rfl⟩:=ry;exact PySem.EqNone.ne_none_int (j0k I q (by simp))
  | str j=>obtain⟨t',rfl⟩:=ry;exact PySem.EqNone.ne_none_str (j0k I q (by simp))
  | _=>exact absurd (show false=true from hs) Bool.false_ne_true
 | bl i =>
  cases rx
  cases y with
  | non=>cases ry;exact PySem.EqNone.ne_bool_none (j0k I q (by simp))
  | bl j=>cases ry;exact ne_bool (j0k I q (congrArg not jfr))
  | str j=>obtain⟨t',rfl⟩:=ry;exact PySem.EqMixed.ne_bool_str (j0k I q (by simp))
  | _=>exact absurd (show false=true from hs) Bool.false_ne_true
 | int i =>
  obtain⟨t,rfl⟩:=rx
  cases y with
  | non=>cases ry;exact PySem.EqNone.ne_int_none (j0k I q (by simp))
  | int j=>obtain⟨t',rfl⟩:=ry;exact ne_int (j0k I q (congrArg not jc4))
  | str j=>obtain⟨t',rfl⟩:=ry;exact PySem.EqMixed.ne_int_str (j0k I q (by simp))
  | _=>exact absurd (show false=true from hs) Bool.false_ne_true
 | str i =>
  obtain⟨t,rfl⟩:=rx
  cases y with
  | non=>cases ry;exact PySem.EqNone.ne_str_none (j0k I q (by simp))
  | bl j=>cases ry;exact PySem.EqMixed.ne_str_bool (j0k I q (by simp))
  | int j=>obtain⟨t',rfl⟩:=ry;exact PySem.EqMixed.ne_str_int (j0k I q (by simp))
  | str j=>obtain⟨t',rfl⟩:=ry;exact ne_str (j0k I q (congrArg not jc5))
  | _=>exact absurd (show false=true from hs) Bool.false_ne_true
 | byt i =>
  obtain⟨t,rfl⟩:=rx
  cases y with
  | byt j=>obtain⟨t',rfl⟩:=ry;exact PySem.W.ne_bytes (j0k I q (congrArg not jc6))
  | _=>exact absurd (show false=true from hs) Bool.false_ne_true
 | _=>cases y <;> exact absurd (show false=true from hs) Bool.false_ne_true
theorem jjz:OpR X (compareOp .Lt) (rI0 fun i j=>.bl (decide (i < j))):=opB0 fun _ _ _ _ _ _ _ q=>lt_int q
theorem op_le:OpR X (compareOp .LtE) (rI0 fun i j=>.bl (decide (i≤j))):=opB0 fun _ _ _ _ _ _ _ q=>le_int q
theorem jfh:OpR X (compareOp .Gt) (rI0 fun i j=>.bl (decide (j < i))):=opB0 fun _ _ _ _ _ _ _ q=>gt_int q
theorem op_isN:OpR X (compareOp .Is) (fun x y H Q=>y=.non∧Q (.bl (decide (x=.non))) H):=by
 intro pins s σ H x y v u Q I rx ry h
 obtain⟨rfl,q⟩:=h
 cases ry
 refine is_none_gen (j0k I q ?_)
 cases x <;> first
  | (cases rx;rfl)
  | (obtain⟨t,rfl⟩:=rx;rfl)
theorem jfs:OpR X (compareOp .IsNot) (fun x y H Q=>y=.non∧Q (.bl (!decide (x=.non))) H):=by
 intro pins s σ H x y v u Q I rx ry h
 obtain⟨rfl,q⟩:=h
 cases ry
 refine isnot_none_gen (j0k I q ?_)
 cases x <;> first
  | (cases rx;rfl)
  | (obtain⟨t,rfl⟩:=rx;rfl)
theorem OpR.or {f:Value→Value→Sem Value}{r r':R2} (h:OpR X f r) (h':OpR X f r'):OpR X f (fun x y H Q=>r x y H Q∨r' x y H Q):=by
 intro pins s σ H x y v u Q I rx ry q
 rcases q with q | q
 ·exact h pins s σ H x y v u Q I rx ry q
 ·exact h' pins s σ H x y v u Q I rx ry q
theorem j0o (b:Expr) {op:CmpOp} (h:op≠.In:=by decide) (h2:op≠.NotIn:=by decide):behindInMarks op b=false:=by
 have e1:(op == CmpOp.In)=false:=by cases op <;> first | rfl | exact absurd rfl h
 have e2:(op == CmpOp.NotIn)=false:=by cases op <;> first | rfl | exact absurd rfl h2
 cases b <;> simp[behindInMarks,e1,e2]
theorem j1u {op:CmpOp}{r:R2} (ho:OpR X (compareOp op) r) (ha:PE X a ta) (hb:PE X b tb) (hm:behindInMarks op b=false):PE X (.Compare a [op] [b] pos) (tOp r ta tb):=by
 intro pins s σ H Q I h
 exact wpAny_Compare1 (binT ha hb I h fun v u s2 x y H2 I2 rx ry q=>ho pins s2 σ H2 x y v u Q I2 rx ry q) hm
def tTest (t:TE):TT:=fun σ H Q=>t σ H fun x H'=>∃ k,x=.bl k∧Q k H'
theorem j0f {op:CmpOp}{r:R2} (ho:OpR X (compareOp op) r) (ha:PE X a ta) (hb:PE X b tb) (hm:behindInMarks op b=false):PT X (.Compare a [op] [b] pos) (tTest (tOp r ta tb)):=by
 intro pins s σ H Q I h
 refine wpAny_isTrue_Compare1 (thn (ha pins s σ H _ I h) fun v s1 ⟨x,H1,I1,r1,q1⟩=>thn (hb pins s1 σ H1 _ I1 q1) fun u s2 ⟨y,H2,I2,r2,q2⟩ =>
  thn (ho pins s2 σ H2 x y v u _ I2 r1 r2 q2) fun c s3 ⟨z,H3,I3,r3,k,e,q3⟩=>?_) hm
 subst e
 cases r3
 exact wpAny_truthy_bool ⟨H3,I3,q3⟩
def TruV (K:PySem.W.Frag) (x:V) (H:Hp) (k:Bool):Prop :=
 match x with
 | .non=>k=false
 | .bl b=>k=b
 | .int i=>k=(i != 0)
 | .str y=>y.length≤sizeLine∧k=((y.length:Int) != 0)
 | .byt y=>y.size≤sizeLine∧k=((y.size:Int) != 0)
 | .ref p=>(∃ xs,SqL K H p xs∧k=!xs.isEmpty)∨(∃ xs,SqT K H p xs∧k=!xs.isEmpty)∨∃ kvs,H p=some (.dK kvs)∧k=!kvs.isEmpty
 | _=>False
theorem j82 {κ:Type}{kvs:List (κ × V)}{vs:List (κ × Value)} (r:KV kvs vs):(!vs.isEmpty)=!kvs.isEmpty:=by
 cases r <;> rfl
theorem j4b {xs:List V}{its:List Value} (r:Vals xs its):(!its.toArray.isEmpty)=!xs.isEmpty:=by
 cases r <;> simp
theorem j7e:(sizeLine:Nat) < 2 ^ 63:=by rw[sizeLine_eq];decide
theorem tru_ok:TruR X (fun x H Q=>∃ k,TruV X.K x H k∧Q k H):=by
 intro pins s σ H x v Q I rx h
 obtain⟨k,e,q⟩:=h
 have hl:=j7e
 have hs:sizeLine=16777216:=sizeLine_eq
 cases x with
 | non =>
  cases rx
  have e':k=false:=e
  subst e'
  exact truthy_none ⟨H,I,q⟩
 | bl b =>
  cases rx
  have e':k=b:=e
  subst e'
  exact wpAny_truthy_bool ⟨H,I,q⟩
 | int i =>
  obtain⟨t,rfl⟩:=rx
  have e':k=(i != 0):=e
  subst e'
  exact PySem.P.truthy_int ⟨H,I,q⟩
 | str y =>
  obtain⟨t,rfl⟩:=rx
  obtain⟨hy,e'⟩:y.length≤sizeLine∧k=((y.length:Int) != 0):=e
  subst e'
  exact PySem.P.truthy_str (by omega) ⟨H,I.tok _,q⟩
 | byt y =>
  obtain⟨t,rfl⟩:=rx
  obtain⟨hy,e'⟩:y.size≤sizeLine∧k=((y.size:Int) != 0):=e
  subst e'
  exact PySem.W.truthy_bytes (by omega) ⟨H,I.tok _,q⟩
 | ref p =>
  cases rx
  have e':(∃ xs,SqL X.K H p xs∧k=!xs.isEmpty)∨(∃ xs,SqT X.K H p xs∧k=!xs.isEmpty)∨∃ kvs,H p=some (.dK kvs)∧k=!kvs.isEmpty:=e
  rcases e' with⟨xs,hx,e'⟩ | ⟨xs,hx,e'⟩ | ⟨kvs,hx,e'⟩
  ·subst e'
   obtain⟨its,r,pl,hz⟩:=I.list hx
   have hlen:=r.length
   exact wpAny_truthy_list pl.isList (by simp only[List.size_toArray];omega) ⟨H,I.tok _,by rw[j4b r];exact q⟩
  ·subst e'
   obtain⟨its,r,pl,hz⟩:=I.tuple hx
   have hlen:=r.length
   exact truthy_tuple pl (by simp only[List.size_toArray];omega) ⟨H,I.tok _,by rw[j4b r];exact q⟩
  ·subst e'
   obtain⟨hz,hS,vs,r,m⟩:kvs.length≤sizeLine∧(p == sysModules)=false∧∃ vs,KV kvs vs∧s.heap.DictOf (j0r X.prog X.w) p vs:=I.hok p _ hx
   have hlen:kvs.length=vs.length:=Paired.length r
   exact wpAny_truthy_dict hS m (by omega) ⟨H,I.tok _,by rw[j82 r];exact q⟩
 | _=>exact (show False from e).elim
theorem jd9 (ha:PE X a ta) (he:∀ whole,isTrue a X.env whole=(do let v ← whole;standAt a.pos;holding [v] (truthy v))) :
  PT X a (fun σ H Q=>ta σ H fun x H'=>∃ k,TruV X.K x H' k∧Q k H'):=by
 intro pins s σ H Q I h
 exact isTrue_plain (thn (ha pins s σ H _ I h) fun v s1 ⟨x,H1,I1,r1,q1⟩=>tru_ok pins s1 σ H1 x v Q I1 r1 q1) (he _)
theorem j83:OpR X (binaryOp .Add) (fun x y H Q=>∃ i j,x=.str i∧y=.str j∧i.length+j.length≤sizeLine∧Q (.str (i++j)) H):=by
 intro pins s σ H x y v u Q I rx ry h
 obtain⟨i,j,rfl,rfl,hz,q⟩:=h
 obtain⟨t,rfl⟩:=rx
 obtain⟨t',rfl⟩:=ry
 exact add_str (fun t' tk=>⟨.str (i++j),H,I.tok _,⟨_,rfl⟩,q⟩) hz
theorem j4a {x:V}{us:List Value} (r:Vals [x] us):∃ u,us=[u]∧RelV x u:=by
 cases r with
 | cons r1 r2=>cases r2;exact⟨_,rfl,r1⟩
theorem jfi {x y:V}{us:List Value} (r:Vals [x,y] us):∃ u w',us=[u,w']∧RelV x u∧RelV y w':=by
 cases r with
 | cons r1 r2 =>
  cases r2 with
  | cons r3 r4=>cases r4;exact⟨_,_,rfl,r1,r3⟩
theorem jda:CallR X (.builtin "abs") (fun xs H Q=>∃ i,xs=[.int i]∧Q (.int (if i < 0 then -i else i)) H):=by
 intro pins s σ H xs us Q I r h
 obtain⟨i,rfl,q⟩:=h
 obtain⟨u,rfl,t,rfl⟩:=j4a r
 exact call_abs_int fun u tk=>⟨.int (if i < 0 then -i else i),H,I.tok _,⟨_,rfl⟩,q⟩
def LenV (K:PySem.W.Frag) (x:V) (H:Hp) (n:Nat):Prop :=
 match x with
 | .str y=>y.length≤sizeLine∧n=y.length
 | .byt y=>y.size≤sizeLine∧n=y.size
 | .ref p=>(∃ xs,SqL K H p xs∧n=xs.length)∨∃ xs,SqT K H p xs∧n=xs.length
 | _=>False
theorem jdb:CallR X (.builtin "len") (fun xs H Q=>∃ x n,xs=[x]∧LenV X.K x H n∧Q (.int n) H):=by
 intro pins s σ H xs us Q I r h
 obtain⟨x,n,rfl,e,q⟩:=h
 obtain⟨u,rfl,rx⟩:=j4a r
 have hl:=j7e
 have hs:sizeLine=16777216:=sizeLine_eq
 cases x with
 | str y =>
  obtain⟨t,rfl⟩:=rx
  obtain⟨hy,e'⟩:y.length≤sizeLine∧n=y.length:=e
  subst e'
  exact len_str (by omega) ⟨.int _,H,I.tok _,⟨_,rfl⟩,q⟩
 | byt y =>
  obtain⟨t,rfl⟩:=rx
  obtain⟨hy,e'⟩:y.size≤sizeLine∧n=y.size:=e
  subst e'
  exact PySem.W.len_bytes (by omega) ⟨.int _,H,I.tok _,⟨_,rfl⟩,q⟩
 | ref p =>
  cases rx
  have e':(∃ xs,SqL X.K H p xs∧n=xs.length)∨∃ xs,SqT X.K H p xs∧n=xs.length:=e
  rcases e' with⟨xs,hx,e'⟩ | ⟨xs,hx,e'⟩
  ·subst e'
   obtain⟨its,r',pl,hz⟩:=I.list hx
   have hlen:=r'.length
   exact Calls.call_len_list pl.isList (by simp only[List.size_toArray];omega) ⟨.int xs.length,H,I.tok _,⟨_,by simp only[List.size_toArray];rw[hlen]⟩,q⟩
  ·subst e'
   obtain⟨its,r',pl,hz⟩:=I.tuple hx
   have hlen:=r'.length
   exact len_tuple pl (by simp only[List.size_toArray];omega) ⟨.int xs.length,H,I.tok _,⟨_,by simp only[List.size_toArray];rw[hlen]⟩,q⟩
 | _=>exact (show False from e).elim
end
structure ObjM (h:Heap) (x dx C:Addr) (mA:Str→Option Value):Prop where
 obj:h.get? x=some (PySem.W.instObj C dx)
 ns:h.Ns1 dx mA
 ne:dx≠x
theorem jag {h:Heap}{dx:Addr}{mA:Str→Option Value} (n:h.Ns1 dx mA):∃ od,h.get? dx=some od∧∀ name,PySem.W.lookIn name od=some (mA name):=by
 obtain⟨o,es,ep,ho,hd,hk,_,hm⟩:=n
 refine⟨o,ho,fun name=>?_⟩
 have e:=hm name
 unfold nsFind findBy at e
 rw[← Array.find?_toList] at e
 unfold PySem.W.lookIn
 rw[hd]
 dsimp only
 split
 ·rename_i y q
  rw[q] at e
  exact congrArg some e
 ·rename_i q
  rw[q] at e
  have a:es.toList.any (·.refKey)=false:=by
   rw[List.any_eq_false]
   intro y hy
   obtain⟨z,t,hkey⟩:=hk y (Array.mem_toList_iff.mp hy)
   simp[DictEntry.refKey,hkey]
  have a':¬ es.toList.any (·.refKey)=true:=by rw[a];exact Bool.false_ne_true
  rw[if_neg a']
  exact congrArg some e
theorem ObjM.look {h:Heap}{x dx C:Addr}{mA:Str→Option Value} (I:ObjM h x dx C mA):∃ od,PySem.W.InstAt h x (PySem.W.instObj C dx) C (some od)∧∀ name,PySem.W.lookIn name od=some (mA name) :=
 let ⟨od,ho,hl⟩:=jag I.ns
 ⟨od,⟨I.obj,rfl,rfl,ho⟩,hl⟩
section
variable {prog:Program}{w:World}{A:Around}{E:Value→Shared→Prop}{s:Shared}{K:PySem.W.Frag}{x dx C f:Addr}{mA:Str→Option Value}{name:Str}{v:Value}
theorem jft {expr:Bool}{Q:Value→Shared→Prop} (X:K.In s.heap) (I:ObjM s.heap x dx C mA) (hg:PySem.W.plainGet K C name=true) (hh:PySem.W.hasDictIn K C=true)
  (ha:PySem.W.findIn K (.ref C) name=some none) (hv:mA name=some v) (hv':PySem.W.handedIn v=true) (h:Q v { s with toks:=s.toks+1 }) :
  wpAny (model prog w) A (getAttr (.ref x) name expr) Q E s:=by
 obtain⟨od,J,hl⟩:=I.look
 exact PySem.W.get_value X J (PySem.W.plainGet_of hg).1 (PySem.W.findObj_own hh ha rfl (by rw[hl,hv])) hv' h
theorem jdc {pl:Sem Bool}{Q:Value × List Value→Shared→Prop} (X:K.In s.heap) (I:ObjM s.heap x dx C mA) (hg:PySem.W.plainGet K C name=true)
  (hf:PySem.W.findIn K (.ref C) name=some (some (.ref f))) (ht:PySem.W.isFn K (.ref f)=true) (hv:mA name=none) (h:Q (.ref f,[.ref x]) s) :
  wpAny (model prog w) A (getMethod (.ref x) name pl) Q E s:=by
 obtain⟨od,J,hl⟩:=I.look
 exact PySem.W.method_fn X J (PySem.W.plainGet_of hg).1 (PySem.W.plainGet_of hg).2 hf (beq_iff_eq.mp ht) (by show (PySem.W.lookIn name od).map (·.isSome)=some false;rw[hl,hv];rfl) h
theorem jfu {ns:List Str}{Q:Unit→Shared→Prop} (X:K.In s.heap) (I:ObjM s.heap x dx C mA)
  (hs:PySem.W.findIn K (.ref C) "__setattr__"=some (some (.builtin "object.__setattr__"))) (hp:PySem.W.plainOver K C=true) (ht:PySem.W.takerIn K C name=some none) (hh:PySem.W.hasDictIn K C=true)
  (hw:PySem.Within mA ns) (hsz:ns.length≤sizeLine)
  (h:∀ h',ObjM h' x dx C (fun y=>if y=name then some v else mA y)→Heap.SameBut dx s.heap h'→Q () { s with heap:=h',toks:=s.toks+2 }) :
  wpAny (model prog w) A (setAttr (.ref x) name v) Q E s:=by
 obtain⟨od,J,hl⟩:=I.look
 refine PySem.W.set_plain X J hs (PySem.W.osa_open (s:={ s with toks:=s.toks+1 }) (r:=none) X J hp ht fun b=>?_)
 obtain⟨cd,hc,hd'⟩:=PySem.W.any_some hh
 have hx:s.heap.get? x=some ⟨.ref C,some dx,.plain,#[]⟩:=I.obj
 refine wpAny_bind (wpAny_pure (wpAny_bind (wpAny_bind (wpAny_loadPart hx (wpAny_bind (PySem.W.Looks.here (s:={ s with toks:=s.toks+1 }) (PySem.W.looks_clsIn X hc) ?_))))))
 rw[hd']
 refine wpAny_pure (a:=some dx) (wpAny_bind (wpAny_pure (wpAny_bind ?_)))
 refine wpAny_nsSet1 (s:={ s with toks:=s.toks+1 }) I.ns fun h' hn2 hs2=>?_
 obtain⟨oD,esD,epD,hoD,hdD,hcD⟩:=hn2.count (PySem.Within.cons name v hw)
 refine wpAny_bind (wpAny_lookBehind hoD (by rw[hdD];exact pastItsLine_dict (Nat.le_trans hcD (by rw[List.length_cons];omega))) ?_)
 exact wpAny_pure (h _ ⟨(hs2.2 _ (Ne.symm I.ne)).trans I.obj,hn2,I.ne⟩ hs2)
theorem jdd {R:Result→Shared→Prop}{vs:List Value}{kw:List (Str × Value)} (X:K.In s.heap) (hm:PySem.W.makesIn K C=true)
  (hi:PySem.W.findIn K (.ref C) "__init__"=some (some (.ref f))) (hf:PySem.W.typeIn K (.ref f)=some (.type "function"))
  (h:codeAny (model prog w) (A.under (.builtin "type.__call__" ⟨.ref C :: vs,kw⟩)) (.call (.ref f) ⟨.ref (s.heap.objs.size+1) :: vs,kw⟩) (PySem.W.InitBack (s.heap.objs.size+1) R)
   { s with heap:=(s.heap.push PySem.W.emptyDict).push (PySem.W.instObj C s.heap.objs.size) }) :
  codeAny (model prog w) A (.call (.ref C) ⟨vs,kw⟩) R s:=by
 obtain⟨hh,g,d,t,os⟩:=s
 exact PySem.W.make_core (PySem.W.makes_of X hm) (PySem.W.looks_findIn X hi) (fun self=>PySem.W.bind_fn X self hf) (.inl rfl) h
end
def putF (f:Str) (v:V):List (Str × V)→List (Str × V)
 | []=>[(f,v)]
 | (g,x) :: r=>if g=f then (g,v) :: r else (g,x) :: putF f v r
theorem j3f (f g:Str) (v:V):∀ fs:List (Str × V),(putF f v fs).lookup g=if g=f then some v else fs.lookup g
 | []=>by
  show List.lookup g [(f,v)]=_
  by_cases h:g=f
  ·have hb:(g == f)=true:=beq_iff_eq.mpr h
   simp only[List.lookup,hb,if_pos h]
  ·have hb:(g == f)=false:=beq_eq_false_iff_ne.mpr h
   simp only[List.lookup,hb,if_neg h]
 | (k,x) :: r=>by
  have ih:=j3f f g v r
  rw[show putF f v ((k,x) :: r)=(if k=f then (k,v) :: r else (k,x) :: putF f v r) from rfl]
  by_cases hk:k=f
  ·rw[if_pos hk]
   by_cases h:g=k
   ·have hb:(g == k)=true:=beq_iff_eq.mpr h
    simp only[List.lookup,hb,if_pos (h.trans hk)]
   ·have hb:(g == k)=false:=beq_eq_false_iff_ne.mpr h
    simp only[List.lookup,hb,if_neg (fun e:g=f=>h (e.trans hk.symm))]
  ·rw[if_neg hk]
   by_cases h:g=k
   ·have hb:(g == k)=true:=beq_iff_eq.mpr h
    simp only[List.lookup,hb,if_neg (fun e:g=f=>hk (h.symm.trans e))]
   ·have hb:(g == k)=false:=beq_eq_false_iff_ne.mpr h
    simp only[List.lookup,hb]
    exact ih
theorem j3t (f:Str) (v:V):∀ fs:List (Str × V),f∈(putF f v fs).map (·.1)∧∀ g,g∈fs.map (·.1)→g∈(putF f v fs).map (·.1)
 | []=>⟨by simp[putF],fun g h=>by simp at h⟩
 | (k,x) :: r=>by
  obtain⟨i1,i2⟩:=j3t f v r
  rw[show putF f v ((k,x) :: r)=(if k=f then (k,v) :: r else (k,x) :: putF f v r) from rfl]
  by_cases hk:k=f
  ·rw[if_pos hk]
   subst hk
   exact⟨by simp,fun g h=>by simpa using h⟩
  ·rw[if_neg hk]
   refine⟨?_,fun g h=>?_⟩
   ·rw[List.map_cons]
    exact List.mem_cons_of_mem _ i1
   ·rw[List.map_cons] at h ⊢
    rcases List.mem_cons.mp h with e | e
    ·exact List.mem_cons.mpr (.inl e)
    ·exact List.mem_cons_of_mem _ (i2 g e)
theorem j3g (f:Str) (v:V):∀ fs:List (Str × V),(putF f v fs).length≤fs.length+1
 | []=>by simp[putF]
 | (k,x) :: r=>by
  have ih:=j3g f v r
  rw[show putF f v ((k,x) :: r)=(if k=f then (k,v) :: r else (k,x) :: putF f v r) from rfl]
  by_cases hk:k=f
  ·rw[if_pos hk,List.length_cons,List.length_cons];omega
  ·rw[if_neg hk,List.length_cons,List.length_cons];omega
theorem RelO.some_of {v:V}{o:Option Value} (r:RelO (some v) o):∃ u,o=some u∧RelV v u:=by
 cases o with
 | none=>exact (show False from r).elim
 | some u=>exact⟨u,rfl,r⟩
theorem RelO.none_of {o:Option Value} (r:RelO none o):o=none:=by
 cases o with
 | none=>rfl
 | some u=>exact (show False from r).elim
theorem jah {v:V}{u:Value} (r:RelV v u):PySem.W.handedIn u=true:=by
 cases v with
 | non=>cases (show u=Value.none from r);rfl
 | bl b=>cases (show u=Value.bool b from r);rfl
 | int i=>obtain⟨t,e⟩:=(show ∃ t,u=Value.int i t from r);cases e;rfl
 | str x=>obtain⟨t,e⟩:=(show ∃ t,u=Value.str x t from r);cases e;rfl
 | byt b=>obtain⟨t,e⟩:=(show ∃ t,u=Value.bytes b t from r);cases e;rfl
 | flt b=>obtain⟨t,e⟩:=(show ∃ t,u=Value.float b t from r);cases e;rfl
 | ref a=>cases (show u=Value.ref a from r);rfl
 | ty n=>cases (show u=Value.type n from r);rfl
section
variable {P:Program}{w:World}{H H':Hp}{h h':Heap}{a C dx:Addr}{fs fs':List (Str × V)}
theorem j6d (hok:HOk P w H h) (e:H a=some (.ins C dx fs)):∃ mA,ObjM h a dx C mA∧(∀ f,RelO (fs.lookup f) (mA f))∧PySem.Within mA (fs.map (·.1))∧fs.length≤1000∧H dx=some (.own a):=by
 obtain⟨d,z,ne,ob,mA,n,r,q⟩:=(show ObjOk P w H h a (.ins C dx fs) from hok a _ e)
 exact⟨mA,⟨ob,n,ne⟩,r,q,z,d⟩
end
structure Cls (K:PySem.W.Frag) (C:Addr):Prop where
 pg:PySem.W.plainGet K C Str.empty=true
 hd:PySem.W.hasDictIn K C=true
 po:PySem.W.plainOver K C=true
 sa:PySem.W.findIn K (.ref C) "__setattr__"=some (some (.builtin "object.__setattr__"))
theorem Cls.get {K:PySem.W.Frag}{C:Addr} (c:Cls K C) (f:Str):PySem.W.plainGet K C f=true:=c.pg
def NoAttr (K:PySem.W.Frag) (C:Addr) (f:Str):Prop:=PySem.W.findIn K (.ref C) f=some none
theorem NoAttr.taker {K:PySem.W.Frag}{C:Addr}{f:Str} (n:NoAttr K C f):PySem.W.takerIn K C f=some none:=by
 unfold PySem.W.takerIn
 rw[show PySem.W.findIn K (.ref C) f=some none from n]
 rfl
structure Con (K:PySem.W.Frag) (C:Addr) (f:Str) (v:V) (u:Value):Prop where
 at_:PySem.W.findIn K (.ref C) f=some (some u)
 rel:RelV v u
 get:PySem.W.specialIn K u "__get__"=some none
 cp:PySem.W.copiedNames.contains f=false
structure Meth (K:PySem.W.Frag) (C:Addr) (m:Str) (f:Addr):Prop where
 at_:PySem.W.findIn K (.ref C) m=some (some (.ref f))
 fn:PySem.W.isFn K (.ref f)=true
 kp:PySem.W.keepIn K (.ref f)=true
section
variable {X:Cx}{pins:List (Addr × Obj)}{σ:St}{H:Hp}{s:Shared}{a C dx:Addr}{fs:List (Str × V)}{f:Str}{v:V}{A:Around}{E:Value→Shared→Prop}
theorem j84 {b:Bool}{Q:Value→Shared→Prop} (I:Inv X pins σ H s) (e:H a=some (.ins C dx fs)) (c:Cls X.K C) (n:NoAttr X.K C f) (l:fs.lookup f=some v)
  (h:∀ u s',Inv X pins σ H s'→RelV v u→Q u s'):wpAny (model X.prog X.w) A (getAttr (.ref a) f b) Q E s:=by
 obtain⟨mA,O,r,_,_,_⟩:=j6d I.hok e
 obtain⟨u,hu,ru⟩:=RelO.some_of (v:=v) (o:=mA f) (by rw[← l];exact r f)
 exact jft I.kIn O (c.get f) c.hd n hu (jah ru) (h u _ (I.tok _) ru)
theorem j85 {m:Str}{g:Addr}{pl:Sem Bool}{Q:Value × List Value→Shared→Prop} (I:Inv X pins σ H s) (e:H a=some (.ins C dx fs)) (c:Cls X.K C) (k:Meth X.K C m g) (l:fs.lookup m=none)
  (h:Q (.ref g,[.ref a]) s):wpAny (model X.prog X.w) A (getMethod (.ref a) m pl) Q E s:=by
 obtain⟨mA,O,r,_,_,_⟩:=j6d I.hok e
 have hn:mA m=none:=RelO.none_of (by rw[← l];exact r m)
 exact jdc I.kIn O (c.get m) k.at_ k.fn hn h
theorem j86 {y:V}{u:Value}{Q:Unit→Shared→Prop} (I:Inv X pins σ H s) (e:H a=some (.ins C dx fs)) (c:Cls X.K C) (n:NoAttr X.K C f) (hl:fs.length < 1000) (ry:RelV y u)
  (h:∀ s',Inv X pins σ (upd H a (.ins C dx (putF f y fs))) s'→Q () s'):wpAny (model X.prog X.w) A (setAttr (.ref a) f u) Q E s:=by
 obtain⟨mA,O,r,wi,_,ho⟩:=j6d I.hok e
 have hz:(fs.map (·.1)).length≤sizeLine:=by rw[List.length_map,sizeLine_eq];omega
 refine jfu I.kIn O c.sa c.po n.taker c.hd wi hz fun h' O' sb=>h _ ?_
 have hd:∃ o,h'.get? dx=some o:=let ⟨o,_,_,e',_⟩:=O'.ns;⟨o,e'⟩
 refine I.write (x:=a) (e:=dx) (by rw[e];exact True.intro) (.inr ho) (fun b q hb z=>(sb.2 b hb).trans z) hd ?_
 refine⟨by rw[j08 O.ne];exact ho,?_,O.ne,O'.obj,_,O'.ns,fun g=>?_,fun g hg=>?_⟩
 ·have:=j3g f y fs;omega
 ·show RelO ((putF f y fs).lookup g) (if g=f then some u else mA g)
  rw[j3f]
  by_cases q:g=f
  ·rw[if_pos q,if_pos q];exact ry
  ·rw[if_neg q,if_neg q];exact r g
 ·by_cases q:g=f
  ·rw[q];exact (j3t f y fs).1
  ·refine (j3t f y fs).2 g (wi g fun z=>hg ?_)
   show (if g=f then some u else mA g)=none
   rw[if_neg q];exact z
theorem Inv.made (I:Inv X pins σ H s):Inv X pins σ (upd (upd H s.heap.objs.size (.own (s.heap.objs.size+1))) (s.heap.objs.size+1) (.ins C s.heap.objs.size []))
  { s with heap:=(s.heap.push PySem.W.emptyDict).push (PySem.W.instObj C s.heap.objs.size) }:=by
 have e1:(s.heap.push PySem.W.emptyDict).get? s.heap.objs.size=some PySem.W.emptyDict:=Heap.get?_push_size s.heap rfl
 have e2:((s.heap.push PySem.W.emptyDict).push (PySem.W.instObj C s.heap.objs.size)).get? (s.heap.objs.size+1)=some (PySem.W.instObj C s.heap.objs.size):=by
  have:=Heap.get?_push_size (s.heap.push PySem.W.emptyDict) (o:=PySem.W.instObj C s.heap.objs.size) rfl
  rwa [Heap.size_push] at this
 have e3:(s.heap.push PySem.W.emptyDict).Ns s.heap.objs.size (fun _=>none):=⟨PySem.W.emptyDict,#[],_,e1,rfl,(fun e he=>absurd he (by simp)),fun _=>rfl⟩
 have I1:=I.laid (a:=s.heap.objs.size) (o:=.own (s.heap.objs.size+1)) (h':=s.heap.push PySem.W.emptyDict) (t':=s.toks) (fun b u q=>Heap.get?_push_of_some _ q) (Nat.le_refl _) ⟨_,e1⟩
 refine I1.laid (a:=s.heap.objs.size+1) (o:=.ins C s.heap.objs.size []) (t':=s.toks) (fun b u q=>Heap.get?_push_of_some _ q) (Nat.le_of_eq (Heap.size_push _ _)) ?_
 have ne:s.heap.objs.size≠s.heap.objs.size+1:=Nat.ne_of_lt (Nat.lt_succ_self _)
 refine⟨by rw[j08 ne,j04],Nat.zero_le _,ne,e2,fun _=>none,(Heap.Ns1.of_empty e3).at fun o q=>Heap.get?_push_of_some _ q,fun _=>True.intro,fun y hy=>absurd rfl hy⟩
theorem jc7 {prog:Program}{w:World}{env:Env}{e:Expr}{f:Str}{pos:Pos}{s:Shared}{Q:Value→Shared→Prop} (hb:attributeBase e f env (eval e env)=eval e env)
  (h:wpAny (model prog w) A (eval e env) (fun o s₁=>wpAny (model prog w) A (getAttr o f true) Q E s₁) E s):wpAny (model prog w) A (eval (.Attribute e f pos) env) Q E s :=
 Attribute_any_ h (by rw[arm_eval_Attribute,hb])
end
def tFld (K:PySem.W.Frag) (ta:TE) (f:Str):TE:=fun σ H Q=>ta σ H fun x H1=>∃ a C dx fs v,x=.ref a∧H1 a=some (.ins C dx fs)∧Cls K C∧NoAttr K C f∧fs.lookup f=some v∧Q v H1
def sFld (K:PySem.W.Frag) (ta tv:TE) (f:Str):TS:=fun D σ H=>tv σ H fun y H1=>ta σ H1 fun x H2=>∃ a C dx fs,x=.ref a∧H2 a=some (.ins C dx fs)∧Cls K C∧NoAttr K C f∧fs.length < 1000 ∧
 D.nx σ (upd H2 a (.ins C dx (putF f y fs)))
section
variable {X:Cx}{o e value:Expr}{f:Str}{pos pos' tpos:Pos}{ta tv:TE}
theorem jfv (he:PE X e ta) (hb:attributeBase e f X.env (eval e X.env)=eval e X.env):PE X (.Attribute e f pos) (tFld X.K ta f):=by
 intro pins s σ H Q I h
 refine jc7 hb (thn (he pins s σ H _ I h) fun u s1 ⟨x,H1,I1,rx,a,C,dx,fs,v,ex,ea,c,n,l,q⟩=>?_)
 subst ex
 obtain rfl:u=Value.ref a:=rx
 exact j84 I1 ea c n l fun u' s2 I2 ru=>⟨v,H1,I2,ru,q⟩
theorem jde (ha:PE X o ta) (hv:PE X value tv) (hs:swapsWith value (some (.Attribute o f pos')) pos.line X.env=pure false):PS X (.Assign [.Attribute o f pos'] value pos) (sFld X.K ta tv f):=by
 intro pins s σ H D I h
 refine plainObj_wpAny_Assign_Attribute (thn (hv pins s σ H _ I h) fun u s1 ⟨y,H1,I1,ry,q⟩=>thn (ha pins s1 σ H1 _ I1 q) fun ov s2 ⟨x,H2,I2,rx,a,C,dx,fs,ex,ea,c,n,l,q2⟩=>?_) hs
 subst ex
 obtain rfl:ov=Value.ref a:=rx
 exact j86 I2 ea c n l ry fun s3 I3=>⟨σ,_,I3,q2⟩
end
section
variable {X:Cx}{pins:List (Addr × Obj)}{σ:St}{H:Hp}{s:Shared}{A:Around}{E:Value→Shared→Prop}{Q:Value→Shared→Prop}{c:Value}{b:Bool}
inductive TyOf (K:PySem.W.Frag) (H:Hp):V→Value→Prop where
 | non:TyOf K H .non (.type "NoneType")
 | bl (x:Bool):TyOf K H (.bl x) (.type "bool")
 | int (i:Int):TyOf K H (.int i) (.type "int")
 | str (x:Str):TyOf K H (.str x) (.type "str")
 | flt (x:UInt64):TyOf K H (.flt x) (.type "float")
 | lst {a:Addr}{xs:List V} (e:H a=some (.lst xs)):TyOf K H (.ref a) (.type "list")
 | frz {a:Addr}{o:Obj}{xs:List V} (e:H a=some (.frz o (.lst xs))):TyOf K H (.ref a) (.type "list")
 | tup {a:Addr}{xs:List V} (e:H a=some (.tup xs)):TyOf K H (.ref a) (.type "tuple")
 | dK {a:Addr}{kvs:List (Key × V)} (e:H a=some (.dK kvs)):TyOf K H (.ref a) (.type "dict")
 | dT {a:Addr}{kvs:List (List Key × V)} (e:H a=some (.dT kvs)):TyOf K H (.ref a) (.type "dict")
 | ins {a C dx:Addr}{fs:List (Str × V)} (e:H a=some (.ins C dx fs)) (cl:Cls K C) (ha:PySem.W.findIn K (.ref C) "__class__"=some (some (.builtin "object.__class__")))
   (hn:PySem.W.specialIn K (.builtin "object.__class__") "__get__"=some (some (.builtin "getset_descriptor.__get__"))) (htk:PySem.W.takesIn K (.builtin "object.__class__")=some true)
   (hm:PySem.W.mroIn K C (.type "object")=some true):TyOf K H (.ref a) (.ref C)
theorem j6e {x:V}{u t:Value} (I:Inv X pins σ H s) (rx:RelV x u) (ty:TyOf X.K H x t) (e:PySem.W.kitOne X.K t c=some b) (h:∀ tk,Q (.bool b) { s with toks:=tk }) :
  wpAny (model X.prog X.w) A (call (.builtin "isinstance") [u,c]) Q E s:=by
 cases ty with
 | non=>cases (show u=Value.none from rx);exact PySem.W.kia_one PySem.W.kitx_none I.kIn True.intro e (fun z=>nomatch z) h
 | bl y=>cases (show u=Value.bool y from rx);exact PySem.W.kia_one PySem.W.kitx_bool I.kIn True.intro e (fun z=>nomatch z) h
 | int i=>obtain⟨t,q⟩:=(show ∃ t,u=Value.int i t from rx);cases q;exact PySem.W.kia_one PySem.W.kitx_int I.kIn True.intro e (fun z=>nomatch z) h
 | str y=>obtain⟨t,q⟩:=(show ∃ t,u=Value.str y t from rx);cases q;exact PySem.W.kia_one PySem.W.kitx_str I.kIn True.intro e (fun z=>nomatch z) h
 | flt y=>obtain⟨t,q⟩:=(show ∃ t,u=Value.float y t from rx);cases q;exact PySem.W.kia_one PySem.W.kitx_float I.kIn True.intro e (fun z=>nomatch z) h
 | @lst a xs ea =>
  cases (show u=Value.ref a from rx)
  obtain⟨_,_,n,_,h1⟩:=(show ObjOk X.prog X.w H s.heap a (.lst xs) from I.hok a _ ea)
  exact PySem.W.kia_one PySem.W.kitx_list I.kIn ⟨_,h1,rfl⟩ e (fun z=>nomatch z) h
 | @frz a ob xs ea =>
  cases (show u=Value.ref a from rx)
  obtain⟨_,_,_,n,_,h1⟩:=(show ObjOk X.prog X.w H s.heap a (.frz ob (.lst xs)) from I.hok a _ ea)
  exact PySem.W.kia_one PySem.W.kitx_list I.kIn ⟨_,h1,rfl⟩ e (fun z=>nomatch z) h
 | @tup a xs ea =>
  cases (show u=Value.ref a from rx)
  obtain⟨_,_,_,p⟩:=(show ObjOk X.prog X.w H s.heap a (.tup xs) from I.hok a _ ea)
  obtain⟨o,h1,h2,_⟩:=p.1
  exact PySem.W.kia_one PySem.W.kitx_tuple I.kIn ⟨o,h1,h2⟩ e (fun z=>nomatch z) h
 | @dK a kvs ea =>
  cases (show u=Value.ref a from rx)
  obtain⟨_,_,vs,_,p⟩:=(show ObjOk X.prog X.w H s.heap a (.dK kvs) from I.hok a _ ea)
  obtain⟨o,es,ep,h1,h2,_⟩:=p
  exact PySem.W.kia_one PySem.W.kitx_dict I.kIn ⟨o,h1,h2.1⟩ e (fun z=>nomatch z) h
 | @dT a kvs ea =>
  cases (show u=Value.ref a from rx)
  obtain⟨_,_,xs,_,o,es,ep,h1,h2,_⟩:=(show ObjOk X.prog X.w H s.heap a (.dT kvs) from I.hok a _ ea)
  exact PySem.W.kia_one PySem.W.kitx_dict I.kIn ⟨o,h1,h2.1⟩ e (fun z=>nomatch z) h
 | @ins a C dx fs ea cl ha hn htk hm =>
  cases (show u=Value.ref a from rx)
  obtain⟨mA,O,_⟩:=j6d I.hok ea
  obtain⟨od,J,_⟩:=O.look
  exact PySem.W.kia_one (PySem.W.kitx_own (cl.get _) cl.hd ha hn htk hm) I.kIn J e (fun z=>nomatch z) h
end
structure Room (k:Nat) (A:Around):Prop where
 hd:A.handled=none
 dp:A.depth+3 * k+5 < recursionLimit
 un:A.units+16 * k+200 < cLine
 gd:A.guards=some []
theorem Room.mono {j k:Nat}{A:Around} (r:Room k A) (h:j≤k):Room j A:=⟨r.hd,by have:=r.dp;omega,by have:=r.un;omega,r.gd⟩
theorem Room.deeper {k:Nat}{A:Around} (r:Room (k+1) A) (env:Env):Room k (A.deeper env) :=
 ⟨r.hd,by have:=r.dp;show A.depth+1+3 * k+5 < _;omega,by have:=r.un;show A.units+3+16 * k+200 < _;omega,r.gd⟩
theorem Room.in1 {k:Nat}{A:Around} (r:Room (k+1) A):Room k A.in1 :=
 ⟨r.hd,by have:=r.dp;show A.depth+3 * k+5 < _;omega,by have:=r.un;show A.units+1+16 * k+200 < _;omega,r.gd⟩
theorem j87 {A:Around}{C:Addr}{us:List Value}{kw:List (Str × Value)}:(A.under (.builtin "type.__call__" ⟨.ref C :: us,kw⟩)).depth=A.depth+1:=by
 first | rfl | simp[Around.under,Code.weight,Code.isCreation,Code.isGuard,Code.isCaller,Code.frames,Code.isFrame,guardIds]
theorem j88 {A:Around}{C:Addr}{us:List Value}{kw:List (Str × Value)}:(A.under (.builtin "type.__call__" ⟨.ref C :: us,kw⟩)).units=A.units+1:=by
 first | rfl | simp[Around.under,Code.cUnits,Code.frames,Code.isFrame]
theorem j7f {A:Around}{C:Addr}{us:List Value}{kw:List (Str × Value)}:(A.under (.builtin "type.__call__" ⟨.ref C :: us,kw⟩)).guards=A.guards:=by
 have hg:(Code.builtin "type.__call__" ⟨.ref C :: us,kw⟩).guards=[]:=by first | rfl | simp[Code.guards,Code.isGuard,guardIds]
 show pushGuards (Code.builtin "type.__call__" ⟨.ref C :: us,kw⟩).guards A.guards=A.guards
 rw[hg]
 cases A.guards <;> rfl
theorem Room.make {k:Nat}{A:Around} (r:Room (k+1) A) (C:Addr) (us:List Value) (kw:List (Str × Value)):Room k (A.under (.builtin "type.__call__" ⟨.ref C :: us,kw⟩)) :=
 ⟨r.hd,by have:=r.dp;rw[j87];omega,by have:=r.un;rw[j88];omega,by rw[j7f];exact r.gd⟩
theorem Room.depth {k:Nat}{A:Around} (r:Room k A):A.depth < recursionLimit:=by have:=r.dp;omega
theorem Room.units {k:Nat}{A:Around} (r:Room k A):A.units+64 < cLine:=by have:=r.un;omega
def tNil:TA:=fun _ H Q=>Q [] H
def tCons (ta:TE) (tr:TA):TA:=fun σ H Q=>ta σ H fun x H1=>tr σ H1 fun xs H2=>Q (x :: xs) H2
section
variable {X:Cx}{e:Expr}{es:List Expr}{te:TE}{t:TA}{pos:Pos}
theorem j02:PA X [] tNil:=fun _ _ _ _ H Q I h=>Calls.spliced_nil ⟨[],H,I,.nil,h⟩
theorem j00 (ha:PE X e te) (hr:PA X es t) (hs:starEach (e :: es) X.env=(false,eval e X.env) :: starEach es X.env:=by rfl):PA X (e :: es) (tCons te t):=by
 intro pos pins s σ H Q I h
 rw[hs]
 show wpAny _ _ (spliced ((false,eval e X.env) :: backTo pos (starEach es X.env))) _ _ s
 refine Calls.spliced_cons (thn (ha pins s σ H _ I h) fun u s1 ⟨x,H1,I1,r1,q1⟩=>?_)
 exact thn (hr pos pins s1 σ H1 _ I1 q1) fun us s2 ⟨xs,H2,I2,r2,q2⟩=>⟨x :: xs,H2,I2,.cons r1 r2,q2⟩
def tTup (t:TA):TE:=fun σ H Q=>t σ H fun xs H1=>xs.length≤sizeLine∧∀ p,H1 p=none→Q (.ref p) (upd H1 p (.tup xs))
def tLst (t:TA):TE:=fun σ H Q=>t σ H fun xs H1=>xs.length≤sizeLine∧∀ p,H1 p=none→Q (.ref p) (upd H1 p (.lst xs))
theorem j1v {x1} (h:PA X es t):PE X (.Tuple es x1 pos) (tTup t):=by
 intro pins s σ H Q I hq
 refine wpAny_Tuple_spliced (thn (h pos pins s σ H _ I hq) fun us s1 ⟨xs,H1,I1,r,z,q⟩=>⟨by rw[← r.length];exact z,?_⟩)
 have hf:H1 s1.heap.objs.size=none:=I1.hok.fresh (Nat.le_refl _)
 refine⟨.ref s1.heap.objs.size,upd H1 s1.heap.objs.size (.tup xs),I1.laid (t':=s1.toks) (fun b u e=>Heap.get?_push_of_some _ e) (Nat.le_refl _) ?_,rfl,q _ hf⟩
 exact⟨z,us,r,TupN.new _ _⟩
theorem j1k (h:PA X es t):PE X (.List es pos) (tLst t):=by
 intro pins s σ H Q I hq
 refine wpAny_List_spliced (thn (h pos pins s σ H _ I hq) fun us s1 ⟨xs,H1,I1,r,z,q⟩=>⟨by rw[← r.length];exact z,?_⟩)
 have hf:H1 s1.heap.objs.size=none:=I1.hok.fresh (Nat.le_refl _)
 refine⟨.ref s1.heap.objs.size,upd H1 s1.heap.objs.size (.lst xs),I1.laid (t':=s1.toks) (fun b u e=>Heap.get?_push_of_some _ e) (Nat.le_refl _) ?_,rfl,q _ hf⟩
 exact⟨z,us,0,r,Heap.get?_push_size _ rfl⟩
end
abbrev Sp:=List V→Hp→VK→XK→Prop
abbrev CXT:=List Env→Hp→Shared→XK→Value→Shared→Prop
structure Env0 (P:Program) (w:World) (K:PySem.W.Frag) (mg:Str→Option Value) (base:Heap) (A:Around) (outer:List Env) (s:Shared) (H:Hp):Prop where
 frames:A.frames=some outer
 mod:Mod K mg base
 bs:∀ b o,base.get? b=some o→s.heap.get? b=some o∧H b=none
 bsz:base.objs.size≤s.heap.objs.size
 funs:s.heap.FunFrames base outer
 frf:∀ b∈frs outer,H b=none
 hok:HOk P w H s.heap
 bare:AllBare s.gens
def CE (outer:List Env) (P:Program) (w:World) (H:Hp) (s:Shared) (Q:VK) (u:Value) (s':Shared):Prop :=
 ∃ v H',s'.os=s.os∧AllBare s'.gens∧Un (frs outer) [] H H' s.heap s'.heap∧HOk P w H' s'.heap∧RelV v u∧Q v H'
def CR (CX:CXT) (outer:List Env) (P:Program) (w:World) (H:Hp) (s:Shared) (Q:VK) (E:XK) (r:Result) (s':Shared):Prop :=
 match r with
 | .ok (.ret u)=>CE outer P w H s Q u s'
 | .ok _=>False
 | .error e=>CX outer H s E e s'
structure FnOk (P:Program) (w:World) (K:PySem.W.Frag) (mg:Str→Option Value) (base:Heap) (CX:CXT) (k:Nat) (f:Addr) (fd:FuncData) (ps:List Str) (sp:Sp):Prop where
 len:∀ vs H Q E,sp vs H Q E→vs.length=ps.length
 run:∀ (A:Around) (outer:List Env) (s:Shared) (H:Hp) (args:Args) (us:List Value) (vs:List V) (Q:VK) (E:XK),Room k A→Env0 P w K mg base A outer s H→BindsTo s fd args (ps.zip us)→Vals vs us→sp vs H Q E →
  codeAny (model P w) A (.call (.ref f) args) (CR CX outer P w H s Q E) s
theorem Env0.make {P:Program}{w:World}{K:PySem.W.Frag}{mg:Str→Option Value}{base:Heap}{A:Around}{outer:List Env}{s:Shared}{H:Hp} (e:Env0 P w K mg base A outer s H) (C:Addr) (us:List Value) (kw:List (Str × Value)) :
  Env0 P w K mg base (A.under (.builtin "type.__call__" ⟨.ref C :: us,kw⟩)) outer s H:=⟨by first | exact e.frames | (simpa[Around.under,Code.envs,Code.isFrame,pushEnvs] using e.frames),e.mod,e.bs,e.bsz,e.funs,e.frf,e.hok,e.bare⟩
section
variable {X:Cx}{pins:List (Addr × Obj)}{σ:St}{H:Hp}{s s':Shared}
theorem Inv.env0 (I:Inv X pins σ H s):Env0 X.prog X.w X.K X.mg X.base X.A X.stack s H :=
 ⟨I.ok.frames,I.ok.mod,I.bs,Nat.le_trans I.ok.bsz I.sz,I.stack,I.stkFree,I.hok,I.bare⟩
theorem Inv.after {Q:VK}{u:Value} (I:Inv X pins σ H s) (h:CE X.stack X.prog X.w H s Q u s'):EP X pins σ Q u s':=by
 obtain⟨v,H',os,bare,un,hok,r,q⟩:=h
 obtain⟨hh,g,d,t,os'⟩:=s'
 obtain rfl:os'=s.os:=os
 exact⟨v,H',I.call (h':=hh) (g':=g) (d':=d) (t':=t) (ch:=[]) un hok bare (fun b z=>absurd z (by simp)),r,q⟩
end
def jk2 (sp:Sp) (dvs:List V) (E:XK) (t:TA):TE:=fun σ H Q=>t σ H fun vs H1=>sp (vs++dvs) H1 Q E
def tMeth (C:Addr) (m:Str) (sp:Sp) (dvs:List V) (E:XK) (ta:TE) (t:TA):TE:=fun σ H Q=>ta σ H fun x H1=>∃ a dx fs,x=.ref a∧H1 a=some (.ins C dx fs)∧fs.lookup m=none ∧
 t σ H1 fun vs H2=>sp (x :: (vs++dvs)) H2 Q E
def tMake (C:Addr) (sp:Sp) (dvs:List V) (E:XK) (t:TA):TE:=fun σ H Q=>t σ H fun vs H1=>∀ x dx,H1 x=none→H1 dx=none→dx≠x →
 sp (.ref x :: (vs++dvs)) (upd (upd H1 dx (.own x)) x (.ins C dx [])) (fun v H2=>v=.non∧Q (.ref x) H2) E
def Binds (K:PySem.W.Frag) (fd:FuncData) (ps:List Str) (ds:List Value):Prop :=
 ∀ (s:Shared) (us:List Value),K.In s.heap→(us++ds).length=ps.length→BindsTo s fd ⟨us,[]⟩ (ps.zip (us++ds))
theorem Binds.all {K:PySem.W.Frag}{fd:FuncData}{ps:List Str} (h:∀ us:List Value,us.length=ps.length→bindArgs fd ⟨us,[]⟩=pure (ps.zip us)):Binds K fd ps []:=fun s us _ hl=>by
 rw[List.append_nil] at hl ⊢
 exact .of_eq (h us hl)
def j36 (CX:CXT) (X:Cx) (E:XK):Prop:=∀ (pins:List (Addr × Obj)) (σ:St) (H:Hp) (s:Shared) (e:Value) (s':Shared),Inv X pins σ H s→CX X.stack H s E e s'→X.xe e s'
section
variable {X:Cx}{CX:CXT}{k:Nat}{f C:Addr}{fd:FuncData}{ps:List Str}{sp:Sp}{dvs:List V}{ds:List Value}{E:XK}{x m:Str}{p pos apos:Pos}{e o:Expr}{es:List Expr}{ta:TE}{t:TA}
theorem jfw {pins:List (Addr × Obj)}{σ:St}{H:Hp}{s:Shared}{Q:VK}{us:List Value}{vs:List V} (F:FnOk X.prog X.w X.K X.mg X.base CX k f fd ps sp) (hr:Room k X.A) (hb:Binds X.K fd ps ds) (hd:Vals dvs ds) (hx:j36 CX X E)
  (I:Inv X pins σ H s) (r:Vals vs us) (h:sp (vs++dvs) H Q E):wpAny (model X.prog X.w) X.A (call (.ref f) us) (EP X pins σ Q) X.xe s:=by
 have r2:Vals (vs++dvs) (us++ds):=r.append hd
 have hl:(us++ds).length=ps.length:=by rw[← r2.length];exact F.len _ _ _ _ h
 refine wpAny_call (codeAny_mono (F.run X.A X.stack s H ⟨us,[]⟩ (us++ds) (vs++dvs) Q E hr I.env0 (hb s us I.kIn hl) r2 h) fun r s' hq=>?_)
 cases r with
 | error e=>exact hx pins σ H s e s' I hq
 | ok fl =>
  cases fl with
  | ret u=>exact I.after hq
  | next=>exact False.elim hq
  | brk=>exact False.elim hq
  | cont=>exact False.elim hq
theorem j0c (F:FnOk X.prog X.w X.K X.mg X.base CX k f fd ps sp) (hr:Room k X.A) (hg:Gl X x) (hm:X.mg x=some (.ref f)) (hk:PySem.W.keepIn X.K (.ref f)=true) (hb:Binds X.K fd ps ds) (hd:Vals dvs ds) (hx:j36 CX X E)
  (ha:PA X (e :: es) t) (hdb:(x == ("__debug__":Str))=false:=by decide) (he:starEach (e :: es) X.env=(false,eval e X.env) :: starEach es X.env:=by rfl) (hpl:(backTo pos (starEach es X.env)).any (·.1)=false:=by rfl) :
  PE X (.Call (.Name x p) (e :: es) [] pos) (jk2 sp dvs E t):=by
 intro pins s σ H Q I h
 refine wpAny_Call_Name_kw (j3c I hg hm ?_ hdb)
 refine PySem.W.callWith_K (h₀:=X.base) I.ok.mod.kin hk (thn (ha pos pins s σ H _ I h) fun us s1 ⟨vs,H1,I1,r,q⟩=>⟨I1.kIn,?_⟩) he hpl
 exact jfw F hr hb hd hx I1 r q
theorem j2f {pl:Sem Bool} (he:PE X o ta) (c:Cls X.K C) (hm:Meth X.K C m f) (F:FnOk X.prog X.w X.K X.mg X.base CX k f fd ps sp) (hr:Room k X.A) (hb:Binds X.K fd ps ds) (hd:Vals dvs ds) (hx:j36 CX X E) (ha:PA X (e :: es) t)
  (hst:starEach (e :: es) X.env=(false,eval e X.env) :: starEach es X.env:=by rfl) (hpl:(backTo pos (starEach es X.env)).any (·.1)=false:=by rfl)
  (ht:eval (.Call (.Attribute o m apos) (e :: es) [] pos) X.env=(do
   let ov ← eval o X.env
   standAt apos.atName
   let (f,first) ← holding [ov] (getMethod ov m pl)
   callWith pos f first (backTo pos (starEach (e :: es) X.env)) (backToKw pos (keywordEach [] X.env))):=by rfl) :
  PE X (.Call (.Attribute o m apos) (e :: es) [] pos) (tMeth C m sp dvs E ta t):=by
 intro pins s σ H Q I h
 refine PySem.W.methodCall_KW (pl:=pl) (thn (he pins s σ H _ I h) fun u s1 ⟨x,H1,I1,rx,a,dx,fs,ex,ea,l,q⟩=>?_) ht
 subst ex
 obtain rfl:u=Value.ref a:=rx
 refine j85 I1 ea c hm l ?_
 refine PySem.W.callWith_K (first:=[.ref a]) (h₀:=X.base) I.ok.mod.kin hm.kp (thn (ha pos pins s1 σ H1 _ I1 q) fun us s2 ⟨vs,H2,I2,r,q2⟩=>⟨I2.kIn,?_⟩) hst hpl
 exact jfw (us:=.ref a :: us) (vs:=.ref a :: vs) F hr hb hd hx I2 (.cons rfl r) q2
structure Mk (K:PySem.W.Frag) (C f:Addr):Prop where
 makes:PySem.W.makesIn K C=true
 init:PySem.W.findIn K (.ref C) "__init__"=some (some (.ref f))
 fn:PySem.W.isFn K (.ref f)=true
 kp:PySem.W.keepIn K (.ref C)=true
theorem jdf {pins:List (Addr × Obj)}{σ:St}{H:Hp}{s:Shared}{Q:VK}{us:List Value}{vs:List V} (M:Mk X.K C f) (F:FnOk X.prog X.w X.K X.mg X.base CX k f fd ps sp) (hr:Room (k+1) X.A) (hb:Binds X.K fd ps ds) (hd:Vals dvs ds)
  (hx:j36 CX X E) (I:Inv X pins σ H s) (r:Vals vs us)
  (h:∀ x dx,H x=none→H dx=none→dx≠x→sp (.ref x :: (vs++dvs)) (upd (upd H dx (.own x)) x (.ins C dx [])) (fun v H2=>v=.non∧Q (.ref x) H2) E) :
  wpAny (model X.prog X.w) X.A (call (.ref C) us) (EP X pins σ Q) X.xe s:=by
 have hq:=h (s.heap.objs.size+1) s.heap.objs.size (I.hok.fresh (Nat.le_succ _)) (I.hok.fresh (Nat.le_refl _)) (Nat.ne_of_lt (Nat.lt_succ_self _))
 have I2:=Inv.made (C:=C) I
 have r2:Vals (V.ref (s.heap.objs.size+1) :: (vs++dvs)) (Value.ref (s.heap.objs.size+1) :: (us++ds)):=.cons rfl (r.append hd)
 have hl:(Value.ref (s.heap.objs.size+1) :: us++ds).length=ps.length:=by
  have e:=r2.length
  rw[F.len _ _ _ _ hq] at e
  exact e.symm
 refine wpAny_call (jdd (f:=f) I.kIn M.makes M.init (beq_iff_eq.mp M.fn) (codeAny_mono (F.run _ X.stack _ _ ⟨Value.ref (s.heap.objs.size+1) :: us,[]⟩ (Value.ref (s.heap.objs.size+1) :: (us++ds)) _ _ E (hr.make C us [])
  (I2.env0.make C us []) (hb _ (Value.ref (s.heap.objs.size+1) :: us) I2.kIn hl) r2 hq) fun r s' hq'=>?_))
 cases r with
 | error e=>exact hx pins σ _ _ e s' I2 hq'
 | ok fl =>
  cases fl with
  | ret u =>
   obtain⟨v,H',I3,rv,ev,q3⟩:=I2.after hq'
   subst ev
   exact⟨rv,⟨V.ref (s.heap.objs.size+1),H',I3,rfl,q3⟩⟩
  | next=>exact False.elim hq'
  | brk=>exact False.elim hq'
  | cont=>exact False.elim hq'
theorem j4c (M:Mk X.K C f) (F:FnOk X.prog X.w X.K X.mg X.base CX k f fd ps sp) (hr:Room (k+1) X.A) (hg:Gl X x) (hm:X.mg x=some (.ref C)) (hb:Binds X.K fd ps ds) (hd:Vals dvs ds) (hx:j36 CX X E)
  (ha:PA X (e :: es) t) (hdb:(x == ("__debug__":Str))=false:=by decide) (he:starEach (e :: es) X.env=(false,eval e X.env) :: starEach es X.env:=by rfl) (hpl:(backTo pos (starEach es X.env)).any (·.1)=false:=by rfl) :
  PE X (.Call (.Name x p) (e :: es) [] pos) (tMake C sp dvs E t):=by
 intro pins s σ H Q I h
 refine wpAny_Call_Name_kw (j3c I hg hm ?_ hdb)
 refine PySem.W.callWith_K (h₀:=X.base) I.ok.mod.kin M.kp (thn (ha pos pins s σ H _ I h) fun us s1 ⟨vs,H1,I1,r,q⟩=>⟨I1.kIn,?_⟩) he hpl
 exact jdf M F hr hb hd hx I1 r q
end
section
variable {X:Cx}{CX:CXT}{k:Nat}{f C:Addr}{fd:FuncData}{ps ks:List Str}{sp:Sp}{E:XK}{x m:Str}{p pos apos kpos:Pos}{e o:Expr}{es:List Expr}{kws:List Keyword}{te ta:TE}{t tk:TA}{nm:Option Str}
structure KBinds (K:PySem.W.Frag) (fd:FuncData) (ps ks:List Str) (g:List Value→List Value→List Value) (gV:List V→List V→List V):Prop where
 to:∀ (s:Shared) (us ws:List Value),K.In s.heap→(g us ws).length=ps.length→BindsTo s fd ⟨us,ks.zip ws⟩ (ps.zip (g us ws))
 rel:∀ {vs:List V}{us:List Value}{zs:List V}{ws:List Value},Vals vs us→Vals zs ws→Vals (gV vs zs) (g us ws)
variable {g:List Value→List Value→List Value}{gV:List V→List V→List V}
end
structure FnScope (N P:List Str) (sc:Scope):Prop where
 kind:sc.kind=.function
 co:sc.isCoroutine=false
 gen:sc.isGenerator=false
 nd:N.Nodup
 pre:N.take P.length=P
 par:∀ x∈P,sc.names.lookup x=some .local∨sc.names.lookup x=some .cell
 nofree:∀ y∈sc.names,y.2≠.free
theorem j6f {kindOf:Str→Option NameKind}{x:Str}:∀ {binds:List (Str × Value)}{m:Str→Option Value},(∀ v,(x,v)∉binds)→bindL kindOf binds m x=m x
 | [],_,_=>rfl
 | (n,v) :: r,m,h=>by
  unfold bindL
  rw[j6f fun w hw=>h w (List.mem_cons_of_mem _ hw)]
  split
  ·have:x≠n:=by rintro rfl;exact h v List.mem_cons_self
   simp[this]
  ·rfl
theorem j6g {kindOf:Str→Option NameKind}{x:Str}:∀ {binds:List (Str × Value)}{m:Str→Option Value},(∀ v,(x,v)∉binds)→bindC kindOf binds m x=m x
 | [],_,_=>rfl
 | (n,v) :: r,m,h=>by
  unfold bindC
  rw[j6g fun w hw=>h w (List.mem_cons_of_mem _ hw)]
  split
  ·rfl
  ·have:x≠n:=by rintro rfl;exact h v List.mem_cons_self
   simp[this]
theorem j6h {kindOf:Str→Option NameKind}{x:Str}{v:Value}:∀ {P:List Str}{vs:List Value}{i:Nat}{m:Str→Option Value},P.Nodup→P[i]?=some x→vs[i]?=some v→kindOf x=some .local →
  bindL kindOf (P.zip vs) m x=some v
 | [],_,_,_,_,h,_,_=>by simp at h
 | _ :: _,[],_,_,_,_,h,_=>by simp at h
 | p :: P,w :: vs,0,m,nd,h1,h2,hk=>by
  simp at h1 h2;subst h1;subst h2
  show bindL kindOf ((p,w) :: P.zip vs) m p=_
  unfold bindL
  rw[j6f fun v hv=>(List.nodup_cons.mp nd).1 (List.of_mem_zip hv).1,if_pos hk]
  simp
 | p :: P,w :: vs,i+1,m,nd,h1,h2,hk=>by
  show bindL kindOf ((p,w) :: P.zip vs) m x=_
  unfold bindL
  exact j6h (i:=i) (List.nodup_cons.mp nd).2 (by simpa using h1) (by simpa using h2) hk
theorem j6i {kindOf:Str→Option NameKind}{x:Str}{v:Value}:∀ {P:List Str}{vs:List Value}{i:Nat}{m:Str→Option Value},P.Nodup→P[i]?=some x→vs[i]?=some v→kindOf x≠some .local →
  bindC kindOf (P.zip vs) m x=some v
 | [],_,_,_,_,h,_,_=>by simp at h
 | _ :: _,[],_,_,_,_,h,_=>by simp at h
 | p :: P,w :: vs,0,m,nd,h1,h2,hk=>by
  simp at h1 h2;subst h1;subst h2
  show bindC kindOf ((p,w) :: P.zip vs) m p=_
  unfold bindC
  rw[j6g fun v hv=>(List.nodup_cons.mp nd).1 (List.of_mem_zip hv).1,if_neg hk]
  simp
 | p :: P,w :: vs,i+1,m,nd,h1,h2,hk=>by
  show bindC kindOf ((p,w) :: P.zip vs) m x=_
  unfold bindC
  exact j6i (i:=i) (List.nodup_cons.mp nd).2 (by simpa using h1) (by simpa using h2) hk
def start (N:List Str) (vs:List V):St:=vs.map some++List.replicate (N.length-vs.length) none
def cxOf (CX:CXT) (P:Program) (w:World) (K:PySem.W.Frag) (mg:Str→Option Value) (base:Heap) (N:List Str) (qual:Str) (scope:Scope) (f:Addr) (cd:Value) (A:Around) (outer:List Env) (s:Shared) (H:Hp) (E:XK):Cx where
 prog:=P
 w:=w
 K:=K
 mg:=mg
 base:=base
 A:=A.deeper (envOfC qual scope s.heap.objs.size f cd)
 N:=N
 s₀:=s
 H₀:=H
 env:=envOfC qual scope s.heap.objs.size f cd
 outer:=outer
 stack:=envOfC qual scope s.heap.objs.size f cd :: outer
 ex:=[]
 calm:=true
 fn:=fun _=>true
 pn:=[]
 xe:=fun e s'=>wpAny (model P w) (A.deeper (envOfC qual scope s.heap.objs.size f cd)) (leaving (envOfC qual scope s.heap.objs.size f cd) e) (fun _ s''=>CX outer H s E e s'') (fun e' s''=>CX outer H s E e' s'') s'
theorem j89 {sc:Scope}{n:Nat}{x:Str} (h:sc.names.lookup x=some .cell):∃ c,(cellsFrom n sc.names []).lookup x=some c:=by
 have q:=PySem.W.cellsFrom_some sc.names n [] (.inl h)
 exact Option.isSome_iff_exists.mp q
theorem jai {CX:CXT}{P:Program}{w:World}{K:PySem.W.Frag}{mg:Str→Option Value}{base:Heap}{N ps:List Str}{qual:Str}{scope:Scope}{f:Addr}{cd:Value}{A:Around}{outer:List Env}{s s1:Shared}{H:Hp}{E:XK}{us:List Value}{vs:List V}
  (S:FnScope N ps scope) (hd:A.handled=none) (e0:Env0 P w K mg base A outer s H) (hl:vs.length=ps.length) (r:Vals vs us)
  (x:InCallC s s.heap.objs.size (bindL (envOfC qual scope s.heap.objs.size f cd).kindOf (ps.zip us) fun _=>none) (cellsFrom (s.heap.objs.size+1) scope.names []) (bindC (envOfC qual scope s.heap.objs.size f cd).kindOf (ps.zip us) fun _=>none) s1) :
  Inv (cxOf CX P w K mg base N qual scope f cd A outer s H E) [] (start N vs) H s1:=by
 have hpl:ps.length≤N.length:=by have:=congrArg List.length S.pre;rw[List.length_take] at this;omega
 obtain⟨h1,tk,rfl,hk⟩:=x.done
 have noA:∀ b:Addr,b∉(cxOf CX P w K mg base N qual scope f cd A outer s H E).ex:=fun b z=>absurd (show b∈([]:List Addr) from z) (by simp)
 refine⟨⟨e0.mod,S.kind,rfl,rfl,Nat.le_refl _,fun y z c h1 h2=>?_,fun y hy=>?_,fun y c _ h=>?_,fun _=>hd,Around.frames_deeper e0.frames,.inr ⟨rfl,rfl⟩,fun b z=>absurd z (noA b),e0.bs,e0.bsz,fun b _ _=>noA b,fun b z=>absurd z (noA b),e0.funs,e0.frf⟩,
  rfl,e0.bare,Un.kept hk,⟨_,x.toInCall.ns,fun i y v h1 h2 h3=>?_⟩,fun y c h=>⟨_,x.cell y c h⟩,e0.hok.fresh (Nat.le_refl _),fun y c h=>?_,fun p hp=>absurd (show p∈([]:List (Addr × Obj)) from hp) (by simp),e0.hok.kept hk,?_⟩
 ·exact name_of_addr x.apart (PySem.mem_of_lookup h1) (PySem.mem_of_lookup h2)
 ·have hy:scope.names.lookup y=some .cell∨scope.names.lookup y=some .free:=hy
  rcases hy with hy | hy
  ·exact j89 hy
  ·exact absurd rfl (S.nofree _ (PySem.mem_of_lookup hy))
 ·exact Nat.le_of_lt (x.above y c (PySem.mem_of_lookup h))
 ·have hi:i < vs.length:=by
   unfold start at h2
   by_cases hi:i < vs.length
   ·exact hi
   ·rw[List.getElem?_append_right (by simpa using hi)] at h2
    rw[List.getElem?_replicate] at h2
    split at h2 <;> cases h2
  have ha:vs[i]?=some v:=by
   unfold start at h2
   rw[List.getElem?_append_left (by simpa using hi),List.getElem?_map] at h2
   cases e:vs[i]? with
   | none=>rw[e] at h2;cases h2
   | some a=>rw[e] at h2;cases h2;rfl
  obtain⟨u,hu,rv⟩:=r.get ha
  have hp:ps[i]?=some y:=by
   rw[← S.pre,List.getElem?_take_of_lt (by omega)];exact h1
  have ndP:ps.Nodup:=by rw[← S.pre];exact S.nd.sublist (List.take_sublist _ _)
  refine⟨u,rv,?_⟩
  rcases S.par y (List.mem_of_getElem? hp) with k | k
  ·exact .inl ⟨k,j6h ndP hp hu k⟩
  ·obtain⟨c,e⟩:=j89 (n:=s.heap.objs.size+1) k
   refine .inr ⟨.inl k,c,e,?_⟩
   have q:=x.cell y c e
   rw[j6i ndP hp hu (by show scope.names.lookup y≠_;rw[k];decide)] at q
   exact q
 ·exact e0.hok.fresh (Nat.le_of_lt (x.above y c (PySem.mem_of_lookup h)))
 ·unfold start
  show _=N.length
  rw[List.length_append,List.length_map,List.length_replicate]
  omega
theorem jjb {CX:CXT}{P:Program}{w:World}{K:PySem.W.Frag}{mg:Str→Option Value}{base:Heap}{k:Nat}{f:Addr}{name qual:Str}{params:Arguments}{body:List Stmt}{scope:Scope}{dV kV doc pm cdv ct oc:Value}{an od:Option Addr}
  {osl:Array (Option Value)}{N ps:List Str}{sp:Sp} (lk:K.lookup f=some ⟨oc,od,.func (PySem.W.fnOf name qual params body scope dV kV doc pm an cdv ct),osl⟩) (hcd:PySem.W.codeIn K cdv qual=true) (S:FnScope N ps scope)
  (len:∀ vs H Q E,sp vs H Q E→vs.length=ps.length)
  (hbody:∀ (A:Around) (outer:List Env) (s:Shared) (H:Hp) (vs:List V) (Q:VK) (E:XK),Room k (A.deeper (envOfC qual scope s.heap.objs.size f cdv))→sp vs H Q E →
   ∃ t,PSs (cxOf CX P w K mg base N qual scope f cdv A outer s H E) body t∧t { nx:=fun _ H'=>Q .non H',rt:=Q } (start N vs) H) :
  FnOk P w K mg base CX (k+1) f (PySem.W.fnOf name qual params body scope dV kV doc pm an cdv ct) ps sp:=by
 refine⟨len,fun A outer s H args us vs Q E hr e0 hb r hsp=>?_⟩
 have hl:=len _ _ _ _ hsp
 have KX:K.In s.heap:=e0.mod.kin.keeps fun b o e=>(e0.bs b o e).1
 have lim:s.heap.NoLimit:=e0.mod.nolimit.keeps fun b o e=>(e0.bs b o e).1
 have hkind:∀ y∈ps.zip us,scope.names.lookup y.1=some .local∨(scope.names.lookup y.1=some .cell∧((cellsFrom (s.heap.objs.size+1) scope.names []).lookup y.1).isSome=true):=fun⟨n,v⟩ hy=>by
  rcases S.par n (List.of_mem_zip hy).1 with q | q
  ·exact .inl q
  ·exact .inr ⟨q,PySem.W.cellsFrom_some _ _ _ (.inl q)⟩
 refine codeAny_call_function hr.depth (KX _ _ lk) rfl S.co S.gen rfl (PySem.W.codeRec_of KX hcd) (hb _ _ _ _ ?_)
 refine wpAny_newFunctionEnv_cells S.kind hkind fun env he s1 x=>?_
 subst he
 refine⟨lim.keeps x.toInCall.keep,codeAny_func ?_⟩
 obtain⟨t,ht,hq⟩:=hbody A outer s H vs Q E (hr.deeper _) hsp
 have I:Inv (cxOf CX P w K mg base N qual scope f cdv A outer s H E) [] (start N vs) H s1:=jai S hr.hd e0 hl r x
 refine wpAny_mono (ht [] s1 (start N vs) H _ I hq) (fun fl s' hs=>?_) fun e s' hs=>hs
 have fin:∀ {σ':St}{H':Hp}{v:V}{u:Value},Inv (cxOf CX P w K mg base N qual scope f cdv A outer s H E) [] σ' H' s'→RelV v u→Q v H'→CE outer P w H s Q u s' :=
  fun {σ' H' v u} J rv q=>⟨v,H',J.os,J.bare,J.base,J.hok,rv,q⟩
 cases fl with
 | ret u =>
  obtain⟨v,σ',H',J,rv,q⟩:=hs
  exact fin J rv q
 | next =>
  obtain⟨σ',H',J,q⟩:=hs
  exact fin (v:=V.non) (u:=Value.none) J rfl q
 | brk =>
  obtain⟨_,_,_,q⟩:=hs
  exact False.elim q
 | cont =>
  obtain⟨_,_,_,q⟩:=hs
  exact False.elim q
section
variable {X:Cx}{x:Str}{p pos:Pos}{e:Expr}{es:List Expr}{t:TA}{id T:String}{r:List V→Hp→VK→Prop}
def tCB (r:List V→Hp→VK→Prop) (t:TA):TE:=fun σ H Q=>t σ H fun vs H1=>r vs H1 Q
theorem j07 (hc:CallR X (.builtin id) r) (hg:Gl X x) (hm:X.mg x=none) (hv:bootBuiltins x=some (.builtin id)) (ha:PA X (e :: es) t) (hn:x≠"__name__":=by decide) (hdb:(x == ("__debug__":Str))=false:=by decide)
  (he:starEach (e :: es) X.env=(false,eval e X.env) :: starEach es X.env:=by rfl) (hpl:(backTo pos (starEach es X.env)).any (·.1)=false:=by rfl):PE X (.Call (.Name x p) (e :: es) [] pos) (tCB r t):=by
 intro pins s σ H Q I h
 refine wpAny_Call_Name_kw (j25 I hg hm hv ?_ hn hdb)
 exact PyProof.Rows.callWith_builtin1 (thn (ha pos pins s σ H _ I h) fun us s1 ⟨vs,H1,I1,r1,q1⟩=>hc pins s1 σ H1 vs us Q I1 r1 q1) he hpl
theorem j0j (hc:CallR X (.type T) r) (hg:Gl X x) (hm:X.mg x=none) (hv:bootBuiltins x=some (.type T)) (ha:PA X (e :: es) t) (hn:x≠"__name__":=by decide) (hdb:(x == ("__debug__":Str))=false:=by decide)
  (he:starEach (e :: es) X.env=(false,eval e X.env) :: starEach es X.env:=by rfl) (hpl:(backTo pos (starEach es X.env)).any (·.1)=false:=by rfl):PE X (.Call (.Name x p) (e :: es) [] pos) (tCB r t):=by
 intro pins s σ H Q I h
 refine wpAny_Call_Name_kw (j25 I hg hm hv ?_ hn hdb)
 exact PyProof.Rows.callWith_type1 (thn (ha pos pins s σ H _ I h) fun us s1 ⟨vs,H1,I1,r1,q1⟩=>hc pins s1 σ H1 vs us Q I1 r1 q1) he hpl
end
end L2
namespace HT
open PySem PyProof.Rows
def lexLt:List Int→List Int→Bool
 | [],[]=>false
 | [],_ :: _=>true
 | _ :: _,[]=>false
 | x :: xs,y :: ys=>if x=y then lexLt xs ys else decide (x < y)
theorem j8a (x y:Int) (xs ys:List Int):lexLt (x :: xs) (y :: ys)=if x=y then lexLt xs ys else decide (x < y):=rfl
theorem j4d:lexLt [] []=false:=rfl
theorem j3u (y:Int) (ys:List Int):lexLt [] (y :: ys)=true:=rfl
theorem j3v (x:Int) (xs:List Int):lexLt (x :: xs) []=false:=rfl
theorem jdg (A:Around) (s:Shared) (a:Int) (t:Tok) (c:Int) (u:Tok):∃ e,SeqAt.EqAt A s (.int a t) (.int c u) e∧(e=true↔a=c) :=
 ⟨(a == c),SeqAt.EqAt.int_int a t c u,by simp⟩
theorem jdh (A:Around) (s:Shared) (a:Int) (t:Tok) (c:Int) (u:Tok) (prog:Program) (w:World) (E:Value→Shared→Prop) (Q:Value→Shared→Prop) (h:Q (.bool (decide (a < c))) s) :
  wpAny (model prog w) A (richCompare .Lt (.int a t) (.int c u)) Q E s :=
 (PyProof.Rows.lt_int h:wpAny (model prog w) A (compareOp .Lt (.int a t) (.int c u)) Q E s)
section
open PySem.SeqAt
open PySem.AutoSeq1 (wpAny_loadPart')
open PySem.MeetsSeq PySem.MeetsSeq2 PySem.MeetsSeq3
theorem j4e (l b:Addr) (items items2:Array Value) (n n2:Nat) (dd dd2:Option Addr) (sl sl2:Array (Option Value)) (ns ms:List Int) (hi:IntsAre items.toList ns) (hj:IntsAre items2.toList ms) :
  Meets (Builtin.«tuple.__lt__» ⟨[.ref l,.ref b],[]⟩)
   (fun _ R s=>s.heap.get? l=some { cls:=.type "tuple",dict:=dd,data:=.seq items n,slots:=sl }∧s.heap.get? b=some { cls:=.type "tuple",dict:=dd2,data:=.seq items2 n2,slots:=sl2 } ∧
    R (.ok (.ret (.bool (lexLt ns ms)))) s) :=
 .of_wp fun prog w A R s h=>by
  obtain⟨hp,g,d,tk,os⟩:=s;obtain⟨hl,hb,h⟩:=h
  have f2:=AutoSeq1.sub_tuple_tuple
  have z1:items.size=ns.length:=by rw[← hi.length];simp
  have z2:items2.size=ms.length:=by rw[← hj.length];simp
  wp_walk using wpAny_loadPart' hl,wpAny_loadPart' hb,wpAny_forIn_list _ (fun rest b s'=>b.1=none∧s'=⟨hp,g,d,tk,os⟩∧∃ (vs ws:List Value) (ns' ms':List Int),rest=vs.zip ws ∧
   IntsAre vs ns'∧IntsAre ws ms'∧ns'.length+items2.size=ms'.length+items.size∧R (.ok (.ret (.bool (lexLt ns' ms')))) ⟨hp,g,d,tk,os⟩) _
  case turn =>
   rintro⟨y,x⟩ rest b s' ⟨hb',rfl,vs,ws,ns',ms',hz,hvi,hwi,hlen,hR⟩
   cases hvi with
   | nil=>rw[List.zip_nil_left] at hz;cases hz
   | cons a t hvi' =>
    cases hwi with
    | nil=>rw[List.zip_nil_right] at hz;cases hz
    | cons c u hwi' =>
     rw[List.zip_cons_cons] at hz
     injection hz with hyx hrest
     injection hyx with hy hx
     subst hy hx
     rw[j8a] at hR
     simp only[List.length_cons] at hlen
     obtain⟨e,he,hiff⟩:=jdg A.in1 ⟨hp,g,d,tk,os⟩ a t c u
     refine wpAny_bind (he prog w _ _ ?_)
     cases e with
     | true =>
      rw[if_pos (hiff.mp rfl)] at hR
      wp_walk
      exact⟨rfl,rfl,_,_,_,_,hrest,hvi',hwi',by omega,hR⟩
     | false =>
      rw[if_neg (fun q=>absurd (hiff.mpr q) Bool.false_ne_true)] at hR
      have hri:=jdh A.in1 ⟨hp,g,d,tk,os⟩ a t c u prog w
      wp_walk using hri
      exact⟨_,rfl,by simpa using hR⟩
  case fin =>
   rintro⟨b1,b2⟩ s' ⟨hb',rfl,vs,ws,ns',ms',hz,hvi,hwi,hlen,hR⟩
   simp only at hb'
   subst hb'
   have hv:lexLt ns' ms'=decide (items.size < items2.size):=by
    cases hvi with
    | nil =>
     cases hwi with
     | nil =>
      simp only[List.length_nil] at hlen
      rw[j4d]
      exact (decide_eq_false (by omega)).symm
     | cons c u hw =>
      simp only[List.length_nil,List.length_cons] at hlen
      rw[j3u]
      exact (decide_eq_true (by omega)).symm
    | cons a t hv =>
     cases hwi with
     | nil =>
      simp only[List.length_nil,List.length_cons] at hlen
      rw[j3v]
      exact (decide_eq_false (by omega)).symm
     | cons c u hw =>
      rw[List.zip_cons_cons] at hz
      cases hz
   rw[hv] at hR
   wp_walk
   exact⟨_,rfl,by simpa[Builtin.Tuple.tupleCompareSizes] using hR⟩
  case h =>
   exact⟨rfl,rfl,items.toList,items2.toList,ns,ms,rfl,hi,hj,by omega,h⟩
end
section
variable {prog:Program}{w:World}{A:Around}{E:Value→Shared→Prop}{s:Shared}
theorem lt_tupInts {l b:Addr}{items items2:Array Value}{ns ms:List Int}{Q:Value→Shared→Prop} (hl:IsTup s.heap l items) (hb:IsTup s.heap b items2) (hi:IntsAre items.toList ns) (hj:IntsAre items2.toList ms)
  (hu:A.units < cLine) (h:Q (.bool (lexLt ns ms)) s):wpAny (model prog w) A (compareOp .Lt (.ref l) (.ref b)) Q E s:=by
 obtain⟨⟨cls,dd,data,sl⟩,ho,hc,n,hd⟩:=id hl
 obtain⟨⟨cls2,dd2,data2,sl2⟩,ho2,hc2,n2,hd2⟩:=id hb
 simp only at hc hd hc2 hd2
 subst hc hd hc2 hd2
 exact richCompare_meets_room (op:=.Lt) ⟨_,ho,rfl⟩ ⟨_,ho2,rfl⟩ PySem.F.slot_tuple_lt PySem.F.entry_tuple_lt (PySem.F.args_tuple_lt_2 _ _) (j4e l b items items2 n n2 dd dd2 sl sl2 ns ms hi hj)
  ⟨ho,ho2,show Value.bool (lexLt ns ms)≠Value.notImplemented∧Q (.bool (lexLt ns ms)) s from⟨(fun x=>nomatch x),h⟩⟩ hu
theorem cat_tup {t b:Addr}{vs ws:List Value}{Q:Value→Shared→Prop} (ht:IsTup s.heap t vs.toArray) (hb:IsTup s.heap b ws.toArray) (hv:vs≠[])
  (h1:ws=[]→Q (.ref t) s) (h2:ws≠[]→Q (.ref s.heap.objs.size) { s with heap:=s.heap.push { cls:=.type "tuple",data:=.seq (vs++ws).toArray } })
  (hsz:vs.length+ws.length≤sizeLine):wpAny (model prog w) A (binaryOp .Add (.ref t) (.ref b)) Q E s:=by
 obtain⟨⟨cls,dd,data,sl⟩,ho,hc,n,hd⟩:=id ht
 obtain⟨⟨cls2,dd2,data2,sl2⟩,ho2,hc2,n2,hd2⟩:=id hb
 simp only at hc hd hc2 hd2
 subst hc hd hc2 hd2
 have e:vs.toArray++ws.toArray=(vs++ws).toArray:=by simp
 by_cases hw:ws=[]
 ·exact concat_meets ⟨_,ho,rfl⟩ ⟨_,ho2,rfl⟩ noFill_tuple_add seq_tuple_add PySem.F.slot_tuple_add PySem.F.entry_tuple_add (PySem.F.args_tuple_add_2 _ _)
   (tuple_addW1 t b vs.toArray ws.toArray n n2 dd dd2 sl sl2 (by simpa using hv) (by simp[hw])) ⟨ho,ho2,h1 hw⟩
 ·refine concat_meets ⟨_,ho,rfl⟩ ⟨_,ho2,rfl⟩ noFill_tuple_add seq_tuple_add PySem.F.slot_tuple_add PySem.F.entry_tuple_add (PySem.F.args_tuple_add_2 _ _)
   (tuple_addW2 t b vs.toArray ws.toArray n n2 dd dd2 sl sl2 (by simpa using hv) (by simpa using hw) (by rw[List.size_toArray,List.size_toArray];exact hsz)) ⟨ho,ho2,?_⟩
  rw[e]
  exact h2 hw
def sIx (n d:Nat):Option Int→Nat
 | none=>d
 | some v=>if v < 0 then (v+(n:Int)).toNat else min v.toNat n
theorem sIx_none (n d:Nat):sIx n d none=d:=rfl
theorem sIx_nat (n d k:Nat):sIx n d (some (k:Int))=min k n:=by
 show (if (k:Int) < 0 then ((k:Int)+(n:Int)).toNat else min (k:Int).toNat n)=min k n
 rw[if_neg (by omega),Int.toNat_natCast]
theorem sIx_le (n d:Nat) (hd:d≤n) (o:Option Int):sIx n d o≤n:=by
 cases o with
 | none=>exact hd
 | some v =>
  show (if v < 0 then (v+(n:Int)).toNat else min v.toNat n)≤n
  by_cases hv:v < 0
  ·rw[if_pos hv];omega
  ·rw[if_neg hv];exact Nat.min_le_right _ _
theorem jc8 (v:Int) (n d:Nat):(if v < 0 then max (v+(n:Int)) 0 else min v (n:Int))=((sIx n d (some v):Nat):Int):=by
 show (if v < 0 then max (v+(n:Int)) 0 else min v (n:Int))=(((if v < 0 then (v+(n:Int)).toNat else min v.toNat n):Nat):Int)
 by_cases hv:v < 0
 ·simp only[if_pos hv];omega
 ·simp only[if_neg hv];omega
theorem j8b (lo hi:Option Int) (n:Nat):Builtin.Slice.sliceAdjust lo hi 1 (n:Int)=(((sIx n 0 lo:Nat):Int),((sIx n n hi:Nat):Int)):=by
 have h1:¬ ((1:Int) < 0):=by omega
 unfold Builtin.Slice.sliceAdjust
 simp only[h1,if_false]
 refine Prod.ext ?_ ?_
 ·cases lo with
  | none=>rfl
  | some v=>exact jc8 v n 0
 ·cases hi with
  | none=>rfl
  | some v=>exact jc8 v n n
theorem j8c (i j:Nat):Builtin.Slice.slicePlaces (i:Int) (j:Int) 1=j-i:=by
 unfold Builtin.Slice.slicePlaces
 have h1:(1:Int) > 0:=by omega
 simp only[h1,if_true,Int.ediv_one]
 split <;> omega
theorem j4f {v:Value}{o:Option Int}{Q:Option Int→Shared→Prop} (p:IsPart v o) (h:Q o s):wpAny (model prog w) A (Builtin.Slice.slicePartIndex v) Q E s:=by
 cases p with
 | none=>exact slicePart_none h
 | int i t=>exact slicePart_int h
theorem sliceApplied_gen {sl:Addr}{vl vu:Value}{lo hi:Option Int}{n:Nat}{Q:Int × Int × Nat→Shared→Prop} (hs:s.heap.IsSliceOf sl vl vu .none) (pl:IsPart vl lo) (pu:IsPart vu hi)
  (h:Q (((sIx n 0 lo:Nat):Int),1,sIx n n hi-sIx n 0 lo) s):wpAny (model prog w) A (Builtin.Slice.sliceApplied (.ref sl) (pure (n:Int))) Q E s:=by
 obtain⟨os,hos,hcs,hds⟩:=id hs
 unfold Builtin.Slice.sliceApplied Builtin.Slice.sliceFields
 refine wpAny_bind (wpAny_bind (wpAny_field hos hds (x:=vl) rfl (wpAny_bind (wpAny_field hos hds (x:=vu) rfl (wpAny_bind (wpAny_field hos hds (x:=.none) rfl (wpAny_pure ?_)))))))
 refine wpAny_bind (slicePart_none ?_)
 show wpAny _ _ (if ((1:Int) == 0)=true then _ else _) _ _ s
 rw[if_neg (by decide)]
 refine wpAny_bind (j4f pl (wpAny_bind (j4f pu (wpAny_bind (wpAny_pure ?_)))))
 show wpAny _ _ (match Builtin.Slice.sliceAdjust lo hi 1 (n:Int) with | (lo,hi)=>pure (lo,(1:Int),Builtin.Slice.slicePlaces lo hi 1)) _ _ s
 rw[j8b lo hi n]
 show wpAny _ _ (pure (((sIx n 0 lo:Nat):Int),(1:Int),Builtin.Slice.slicePlaces ((sIx n 0 lo:Nat):Int) ((sIx n n hi:Nat):Int) 1)) _ _ s
 rw[j8c]
 exact wpAny_pure h
theorem jdi (xs:Array Value) (i k:Nat):((List.range k).filterMap fun (m:Nat)=>xs[((i:Int)+(m:Int) * 1).toNat]?).toArray=((xs.toList.drop i).take k).toArray:=by
 have e:(fun (m:Nat)=>xs[((i:Int)+(m:Int) * 1).toNat]?)=fun m=>xs[i+m]?:=by
  funext m
  have:((i:Int)+(m:Int) * 1).toNat=i+m:=by omega
  rw[this]
 rw[e]
 have:=pick_run xs i k
 rw[List.filterMap_map] at this
 have e2:((fun x=>xs[x]?) ∘ fun x=>i+x)=fun m=>xs[i+m]?:=rfl
 rw[e2] at this
 rw[this]
theorem getItem_tuple_cut {t sl:Addr}{items:Array Value}{vl vu:Value}{lo hi:Option Int}{Q:Value→Shared→Prop} (ht:IsTup s.heap t items) (hs:s.heap.IsSliceOf sl vl vu .none) (pl:IsPart vl lo) (pu:IsPart vu hi)
  (hw:¬ (sIx items.size 0 lo=0∧sIx items.size items.size hi=items.size))
  (h:Q (.ref s.heap.objs.size) { s with heap:=s.heap.push { cls:=.type "tuple",data:=.seq ((items.toList.drop (sIx items.size 0 lo)).take (sIx items.size items.size hi-sIx items.size 0 lo)).toArray } })
  (hsz:items.size≤sizeLine):wpAny (model prog w) A (getItem (.ref t) (.ref sl)) Q E s:=by
 have htake:sizeOk (.seq ((items.toList.drop (sIx items.size 0 lo)).take (sIx items.size items.size hi-sIx items.size 0 lo)).toArray):=by
  show ((items.toList.drop (sIx items.size 0 lo)).take (sIx items.size items.size hi-sIx items.size 0 lo)).toArray.size≤sizeLine
  rw[List.size_toArray,List.length_take,List.length_drop,Array.length_toList]
  omega
 have hj:sIx items.size items.size hi≤items.size:=sIx_le _ _ (Nat.le_refl _) hi
 obtain⟨os,hos,hcs,hds⟩:=id hs
 have hTs:s.TypeIs (.ref sl) "slice":=⟨os,hos,hcs⟩
 unfold getItem
 try with_reducible refine wpAny_holding ?_
 first | refine wpAny_bind (wpAny_pure ?_) | skip
 refine wpAny_bind (wpAny_sequenceKey ht.typeIs (by decide) ?_)
 refine wpAny_bind (wpAny_callSpecial?_slot (name:=Str.ofString "__getitem__") ht.typeIs PyProof.Rows.slot_tuple_getitem
  (wpAny_call_entry PyProof.Rows.slot_tuple_getitem ht.typeIs entry_tuple_getitem ?_ (args_tuple_getitem _ _)))
 show wpAny _ _ (Builtin.Tuple.tupleItemsOf (.ref t) >>= _) _ _ s
 refine wpAny_bind (tupleItemsOf_ ht ?_)
 refine wpAny_bind (wpAny_typeOf hTs ?_)
 rw[if_pos (by decide)]
 refine wpAny_bind (sliceApplied_gen hs pl pu ?_)
 have hno:¬ ((((sIx items.size 0 lo:Nat):Int) == 0 && (1:Int) == 1 && (sIx items.size items.size hi-sIx items.size 0 lo) == items.size)=true):=by
  intro q
  rw[Bool.and_eq_true,Bool.and_eq_true] at q
  have q1:((sIx items.size 0 lo:Nat):Int)=0:=eq_of_beq q.1.1
  have q2:sIx items.size items.size hi-sIx items.size 0 lo=items.size:=eq_of_beq q.2
  exact hw ⟨by omega,by omega⟩
 show wpAny _ _ (if (((sIx items.size 0 lo:Nat):Int) == 0 && (1:Int) == 1 && (sIx items.size items.size hi-sIx items.size 0 lo) == items.size)=true then _ else _) _ _ s
 rw[if_neg hno,jdi]
 first
  | exact wpAny_bind (m:=Builtin.Tuple.tupleExact _) (wpAny_newObj_type (wpAny_pure ⟨_,rfl,wpAny_pure h⟩) htake)
  | exact wpAny_bind (m:=Builtin.Tuple.tupleExact _) (wpAny_newObj_type (wpAny_bind (wpAny_pure (wpAny_pure ⟨_,rfl,wpAny_pure h⟩))) htake)
  | exact wpAny_bind (wpAny_bind (m:=Builtin.Tuple.tupleExact _) (wpAny_newObj_type (wpAny_pure (wpAny_pure ⟨_,rfl,wpAny_pure h⟩)) htake))
  | exact wpAny_bind (wpAny_bind (m:=Builtin.Tuple.tupleExact _) (wpAny_newObj_type (wpAny_pure ⟨_,rfl,wpAny_pure h⟩) htake))
end
end HT
namespace L2
open PySem PySem.Spec PyProof.Rows
abbrev TO:=St→Hp→(Option Int→Hp→Prop)→Prop
def PO (X:Cx) (e:Option Expr) (t:TO):Prop :=
 ∀ (pins:List (Addr × Obj)) (s:Shared) (σ:St) (H:Hp) (Q:Option Int→Hp→Prop),Inv X pins σ H s→t σ H Q →
  wpAny (model X.prog X.w) X.A (evalPart e X.env) (fun u s'=>∃ o H',Inv X pins σ H' s'∧IsPart u o∧Q o H') X.xe s
def jc9:TO:=fun _ H Q=>Q none H
def tPart (t:TE):TO:=fun σ H Q=>t σ H fun x H1=>∃ i,x=.int i∧Q (some i) H1
theorem j14 {ns:List Int}:∀ {us:List Value},Vals (ns.map V.int) us→IntsAre us ns:=by
 induction ns with
 | nil=>intro us r;rw[List.map_nil] at r;cases r;exact .nil
 | cons n ns ih =>
  intro us r
  rw[List.map_cons] at r
  cases r with
  | cons r1 r2 =>
   obtain⟨t,e⟩:=r1
   subst e
   exact .cons n t (ih r2)
section
variable {X:Cx}{e:Expr}{te:TE}{lo hi:Option Expr}{tl th:TO}{pos p2:Pos}
theorem j1w:PO X none jc9:=by
 intro pins s σ H Q I h
 rw[evalPart_none]
 exact wpAny_pure ⟨none,H,I,.none,h⟩
theorem j1x (h:PE X e te):PO X (some e) (tPart te):=by
 intro pins s σ H Q I hw
 rw[evalPart_some]
 refine thn (h pins s σ H _ I hw) fun u s1 ⟨x,H1,I1,r1,q1⟩=>?_
 obtain⟨i,rfl,q⟩:=q1
 obtain⟨t,rfl⟩:=r1
 exact⟨some i,H1,I1,.int i t,q⟩
def SlR (X:Cx) (r:V→Option Int→Option Int→Hp→VK→Prop):Prop :=
 ∀ (pins:List (Addr × Obj)) (s:Shared) (σ:St) (H:Hp) (x:V) (v vl vu:Value) (lo hi:Option Int) (sl:Addr) (Q:VK),Inv X pins σ H s→RelV x v→s.heap.IsSliceOf sl vl vu .none→IsPart vl lo→IsPart vu hi→r x lo hi H Q →
  ∃ T id,typeLookup (.type T) "__getitem__"=pure (some (.builtin id))∧s.TypeIs v T∧wpAny (model X.prog X.w) X.A (getItem v (.ref sl)) (EP X pins σ Q) X.xe s
theorem SlR.or {r r':V→Option Int→Option Int→Hp→VK→Prop} (h:SlR X r) (h':SlR X r'):SlR X (fun x lo hi H Q=>r x lo hi H Q∨r' x lo hi H Q):=by
 intro pins s σ H x v vl vu lo hi sl Q I rx hs pl pu q
 rcases q with q | q
 ·exact h pins s σ H x v vl vu lo hi sl Q I rx hs pl pu q
 ·exact h' pins s σ H x v vl vu lo hi sl Q I rx hs pl pu q
def tSl (r:V→Option Int→Option Int→Hp→VK→Prop) (te:TE) (tl th:TO):TE:=fun σ H Q=>te σ H fun x H1=>tl σ H1 fun l H2=>th σ H2 fun u H3=>r x l u H3 Q
theorem j16 {r:V→Option Int→Option Int→Hp→VK→Prop} (hr:SlR X r) (he:PE X e te) (hl:PO X lo tl) (hu:PO X hi th):PE X (.Subscript e (.Slice lo hi none p2) pos) (tSl r te tl th):=by
 intro pins s σ H Q I h
 refine Subscript_ (thn (he pins s σ H _ I h) fun v s1 ⟨x,H1,I1,r1,q1⟩=>?_)
 refine wpAny_Slice (thn (hl pins s1 σ H1 _ I1 q1) fun vl s2 ⟨l,H2,I2,pl,q2⟩=>thn (hu pins s2 σ H2 _ I2 q2) fun vu s3 ⟨u,H3,I3,pu,q3⟩=>?_)
 rw[evalPart_none]
 refine wpAny_pure ?_
 have I4:Inv X pins σ H3 { s3 with heap:=s3.heap.push { cls:=.type "slice",data:=.fields #[vl,vu,.none] } }:=I3.kept (t':=s3.toks) fun b ob q=>Heap.get?_push_of_some _ q
 obtain⟨T,id,hT,ht,hg⟩:=hr pins { s3 with heap:=s3.heap.push { cls:=.type "slice",data:=.fields #[vl,vu,.none] } } σ H3 x v vl vu l u s3.heap.objs.size Q I4 r1 (Heap.IsSliceOf.new ..) pl pu q3
 show wpAny (model X.prog X.w) X.A (subscriptTail e (.Slice lo hi none p2) v (.ref s3.heap.objs.size)) (EP X pins σ Q) X.xe { s3 with heap:=s3.heap.push { cls:=.type "slice",data:=.fields #[vl,vu,.none] } }
 exact tail_any (ops:=[.ref s3.heap.objs.size,v]) ht hT hg (by with_unfolding_all rfl)
def cutV (xs:List V) (lo hi:Option Int):List V:=(xs.drop (HT.sIx xs.length 0 lo)).take (HT.sIx xs.length xs.length hi-HT.sIx xs.length 0 lo)
theorem j3h (xs:List V) (lo hi:Option Int):(cutV xs lo hi).length≤xs.length:=by
 unfold cutV
 rw[List.length_take,List.length_drop]
 omega
def rSlT (K:PySem.W.Frag):V→Option Int→Option Int→Hp→VK→Prop:=fun x lo hi H Q=>∃ a xs,x=.ref a∧SqT K H a xs ∧
 ¬ (HT.sIx xs.length 0 lo=0∧HT.sIx xs.length xs.length hi=xs.length)∧∀ p,H p=none→Q (.ref p) (upd H p (.tup (cutV xs lo hi)))
theorem sl_tup:SlR X (rSlT X.K):=by
 intro pins s σ H x v vl vu lo hi sl Q I rx hs pl pu h
 obtain⟨a,xs,rfl,hx,hw,q⟩:=h
 cases rx
 obtain⟨its,r,ht,hz⟩:=I.tuple hx
 have hlen:its.toArray.size=xs.length:=by rw[List.size_toArray];exact r.length.symm
 refine⟨"tuple",_,PyProof.Rows.slot_tuple_getitem.lookup,ht.typeIs,?_⟩
 refine HT.getItem_tuple_cut ht hs pl pu (by rw[hlen];exact hw) ?_ (by rw[hlen];exact hz)
 rw[hlen]
 refine⟨.ref s.heap.objs.size,_,I.laid (t':=s.toks) (o:=.tup (cutV xs lo hi)) (fun b ob q=>Heap.get?_push_of_some _ q) (Nat.le_refl _) ?_,rfl,q _ (I.hok.fresh (Nat.le_refl _))⟩
 exact⟨Nat.le_trans (j3h xs lo hi) hz,_,(r.drop (HT.sIx xs.length 0 lo)).take (HT.sIx xs.length xs.length hi-HT.sIx xs.length 0 lo),TupN.new _ _⟩
end
def ixN (n:Nat) (i:Int):Option Nat:=if 0≤i then (if i < n then some i.toNat else none) else if -(n:Int)≤i then some (i+n).toNat else none
def atI {α:Type} (xs:List α) (i:Int):Option α:=(ixN xs.length i).bind fun j=>xs[j]?
theorem jfx {n:Nat}{i:Int}{j:Nat} (h:ixN n i=some j):seqIndex? i n=some j∧j < n∧-(n:Int)≤i∧i < n:=by
 unfold ixN at h
 by_cases h0:0≤i
 ·rw[if_pos h0] at h
  by_cases h1:i < n
  ·rw[if_pos h1] at h
   have e:i.toNat=j:=Option.some.inj h
   exact⟨by rw[seqIndex_of h0 h1,e],by omega,by omega,h1⟩
  ·rw[if_neg h1] at h;cases h
 ·rw[if_neg h0] at h
  by_cases h1:-(n:Int)≤i
  ·rw[if_pos h1] at h
   have e:(i+n).toNat=j:=Option.some.inj h
   exact⟨by rw[seqIndex_neg (by omega) h1,e],by omega,h1,by omega⟩
  ·rw[if_neg h1] at h;cases h
theorem j8d {α:Type}{xs:List α}{i:Int}{v:α} (h:atI xs i=some v):∃ j,seqIndex? i xs.length=some j∧xs[j]?=some v∧j < xs.length∧-(xs.length:Int)≤i∧i < xs.length:=by
 unfold atI at h
 cases e:ixN xs.length i with
 | none=>rw[e] at h;cases h
 | some j =>
  rw[e] at h
  obtain⟨h1,h2,h3,h4⟩:=jfx e
  exact⟨j,h1,h,h2,h3,h4⟩
theorem jfy {α:Type}{xs:List α}{j:Nat}{v:α} (h:xs[j]?=some v):atI xs (j:Int)=some v:=by
 have hj:j < xs.length:=(List.getElem?_eq_some_iff.mp h).1
 have e:ixN xs.length (j:Int)=some j:=by
  unfold ixN
  rw[if_pos (by omega),if_pos (by omega)];simp
 unfold atI;rw[e];exact h
def jfz (b:Expr):Prop:=∀ o i,subscripted b false o i=operate [o,i] (getItem o i)
def IxR (X:Cx) (r:R2):Prop :=
 ∀ (value slice:Expr) (pins:List (Addr × Obj)) (s:Shared) (σ:St) (H:Hp) (x y:V) (v u:Value) (Q:VK),Inv X pins σ H s→RelV x v→RelV y u→r x y H Q →
  subscripted slice false v u=operate [v,u] (getItem v u)→wpAny (model X.prog X.w) X.A (subscriptTail value slice v u) (EP X pins σ Q) X.xe s
def MtR (X:Cx) (id:String) (r:V→List V→Hp→VK→Prop):Prop :=
 ∀ (pins:List (Addr × Obj)) (s:Shared) (σ:St) (H:Hp) (x:V) (xs:List V) (v:Value) (us:List Value) (Q:VK),Inv X pins σ H s→RelV x v→Vals xs us→r x xs H Q →
  wpAny (model X.prog X.w) X.A (call (.builtin id) (v :: us)) (EP X pins σ Q) X.xe s
section
variable {X:Cx}{a b:Expr}{ta tb:TE}{pos:Pos}
theorem IxR.or {r r':R2} (h:IxR X r) (h':IxR X r'):IxR X (fun x y H Q=>r x y H Q∨r' x y H Q):=by
 intro value slice pins s σ H x y v u Q I rx ry q hs
 rcases q with q | q
 ·exact h value slice pins s σ H x y v u Q I rx ry q hs
 ·exact h' value slice pins s σ H x y v u Q I rx ry q hs
theorem j2o {r:R2} (hr:IxR X r) (ha:PE X a ta) (hb:PE X b tb) (hs:jfz b):PE X (.Subscript a b pos) (tOp r ta tb):=by
 intro pins s σ H Q I h
 exact Subscript_ (binT ha hb I h fun v u s2 x y H2 I2 rx ry q=>hr a b pins s2 σ H2 x y v u Q I2 rx ry q (hs _ _))
def rIxL (K:PySem.W.Frag):R2:=fun x y H Q=>∃ p xs i v,x=.ref p∧y=.int i∧SqL K H p xs∧atI xs i=some v∧Q v H
def rIxT (K:PySem.W.Frag):R2:=fun x y H Q=>∃ p xs i v,x=.ref p∧y=.int i∧SqT K H p xs∧atI xs i=some v∧Q v H
def rIxS:R2:=fun x y H Q=>∃ z i c,x=.str z∧y=.int i∧z.length≤sizeLine∧atI z.cps.toList i=some c∧Q (.str ⟨#[c]⟩) H
theorem jg0:IxR X (rIxL X.K):=by
 intro value slice pins s σ H x y v u Q I rx ry h hs
 obtain⟨p,xs,i,z,rfl,rfl,hq,he,q⟩:=h
 cases rx
 obtain⟨t,rfl⟩:=ry
 obtain⟨its,r,pl,hz⟩:=I.list hq
 obtain⟨j,h1,h2,h3,h4,h5⟩:=j8d he
 obtain⟨w,ew,rw'⟩:=r.get h2
 have hl:=r.length
 have hn:=j7e
 have fin:EP X pins σ Q w s:=⟨z,H,I,rw',q⟩
 by_cases h0:0≤i
 ·have hj:i.toNat=j:=by
   rw[seqIndex_of h0 h5] at h1
   exact Option.some.inj h1
  exact item_listR pl.isList h0 (by omega) (by rw[hj];simpa using ew) fin hs
 ·have hj:(i+(its.toArray.size:Int)).toNat=j:=by
   rw[seqIndex_neg (by omega) h4] at h1
   rw[List.size_toArray,← hl]
   exact Option.some.inj h1
  exact subscriptTail_builtinR (x:=w) pl.isList.typeIs slot_list_getitem.lookup
   (wpAny_getItem_list_neg (Q:=fun r s'=>r=w∧EP X pins σ Q r s') pl.isList (by omega) (by rw[List.size_toArray] <;> omega) (by omega) (by rw[hj];simpa using ew) ⟨rfl,fin⟩) hs
theorem ix_tup:IxR X (rIxT X.K):=by
 intro value slice pins s σ H x y v u Q I rx ry h hs
 obtain⟨p,xs,i,z,rfl,rfl,hq,he,q⟩:=h
 cases rx
 obtain⟨t,rfl⟩:=ry
 obtain⟨its,r,pl,hz⟩:=I.tuple hq
 obtain⟨j,h1,h2,h3,h4,h5⟩:=j8d he
 obtain⟨w,ew,rw'⟩:=r.get h2
 have hl:=r.length
 have hn:=j7e
 have fin:EP X pins σ Q w s:=⟨z,H,I,rw',q⟩
 exact subscriptTail_builtinR (x:=w) pl.typeIs slot_tuple_getitem.lookup
  (getItem_tuple (j:=j) (Q:=fun r s'=>r=w∧EP X pins σ Q r s') pl (by omega) (by omega) (by rw[List.size_toArray,← hl];exact h1) (by simpa using ew) ⟨rfl,fin⟩) hs
theorem ix_str:IxR X rIxS:=by
 intro value slice pins s σ H x y v u Q I rx ry h hs
 obtain⟨z,i,c,rfl,rfl,hz,he,q⟩:=h
 obtain⟨t,rfl⟩:=rx
 obtain⟨t',rfl⟩:=ry
 obtain⟨j,h1,h2,h3,h4,h5⟩:=j8d he
 have hl:z.cps.toList.length=z.length:=by simp[Str.length]
 rw[hl] at h1 h4 h5
 have hn:=j7e
 exact tail_any (typeIs_str s z t) slot_str_getitem.lookup (getItem_str (c:=c) (by
  have e1:decide (i < -(2 ^ 63:Int))=false:=decide_eq_false (by omega)
  have e2:decide (i≥2 ^ 63)=false:=decide_eq_false (by omega)
  rw[e1,e2,Bool.or_false]) (by rw[h1];simpa using h2) ⟨.str ⟨#[c]⟩,H,I.tok _,⟨_,rfl⟩,q⟩) hs
def rIx (K:PySem.W.Frag):R2:=fun x y H Q=>rIxL K x y H Q∨rIxT K x y H Q∨rIxS x y H Q
theorem ix_seq:IxR X (rIx X.K):=jg0.or (ix_tup.or ix_str)
theorem j5e (lo hi:Option Int) (n:Nat):(sliceBounds lo hi none n).1=((HT.sIx n 0 lo:Nat):Int)∧(sliceBounds lo hi none n).2.1=((HT.sIx n n hi:Nat):Int)∧(sliceBounds lo hi none n).2.2=1:=by
 refine⟨?_,?_,rfl⟩
 ·cases lo with
  | none=>simp[sliceBounds,HT.sIx]
  | some i =>
   simp only[sliceBounds,HT.sIx,Option.getD_none,show (1:Int) > 0 by decide,if_true]
   by_cases h:i < 0
   ·simp only[h,if_true] <;> omega
   ·simp only[h,if_false] <;> omega
 ·cases hi with
  | none=>simp[sliceBounds,HT.sIx]
  | some i =>
   simp only[sliceBounds,HT.sIx,Option.getD_none,show (1:Int) > 0 by decide,if_true]
   by_cases h:i < 0
   ·simp only[h,if_true] <;> omega
   ·simp only[h,if_false] <;> omega
theorem j4g (its:List Value) (lo hi:Option Int):slicePick its.toArray lo hi none=((its.drop (HT.sIx its.length 0 lo)).take (HT.sIx its.length its.length hi-HT.sIx its.length 0 lo)).toArray:=by
 obtain⟨h1,h2,h3⟩:=j5e lo hi its.toArray.size
 unfold slicePick
 rw[h1,h2,h3]
 simp only[sliceRange_one,pick_run,List.size_toArray] <;> rfl
def rSlL (K:PySem.W.Frag):V→Option Int→Option Int→Hp→VK→Prop:=fun x lo hi H Q=>∃ a xs,x=.ref a∧SqL K H a xs∧∀ p,H p=none→Q (.ref p) (upd H p (.lst (cutV xs lo hi)))
theorem jj8:SlR X (rSlL X.K):=by
 intro pins s σ H x v vl vu lo hi sl Q I rx hs pl pu h
 obtain⟨a,xs,rfl,hx,q⟩:=h
 cases rx
 obtain⟨its,r,ht,hz⟩:=I.list hx
 have hlen:=r.length
 refine⟨"list",_,slot_list_getitem.lookup,ht.isList.typeIs,?_⟩
 refine wpAny_getItem_list_slice ht.isList hs pl pu .none (by simp) ?_ (by rw[List.size_toArray] <;> omega)
 rw[j4g,← hlen]
 refine⟨.ref s.heap.objs.size,_,I.laid (t':=s.toks) (o:=.lst (cutV xs lo hi)) (fun b ob q=>Heap.get?_push_of_some _ q) (Nat.le_refl _) ?_,rfl,q _ (I.hok.fresh (Nat.le_refl _))⟩
 exact⟨Nat.le_trans (j3h xs lo hi) hz,_,0,(r.drop (HT.sIx xs.length 0 lo)).take (HT.sIx xs.length xs.length hi-HT.sIx xs.length 0 lo),Heap.get?_push_size _ rfl⟩
def j5f:V→Bool
 | .non=>true
 | .bl _=>true
 | .int _=>true
 | .str _=>true
 | _=>false
def eqV:V→V→Bool
 | .non,.non=>true
 | .bl a,.bl b=>a == b
 | .bl a,.int b=>(if a then 1 else 0) == b
 | .int a,.bl b=>a == (if b then 1 else 0)
 | .int a,.int b=>a == b
 | .str a,.str b=>a == b
 | _,_=>false
theorem eqAt_V {A:Around}{s:Shared}{y x:V}{u v:Value} (ry:RelV y u) (rx:RelV x v) (fy:j5f y=true) (fx:j5f x=true):SeqAt.EqAt A s u v (eqV y x):=by
 cases y with
 | non =>
  cases ry
  cases x with
  | non=>cases rx;exact SeqAt.EqAt.same _
  | bl b=>cases rx;exact SeqAt.EqAt.none_bool b
  | int b=>obtain⟨t,rfl⟩:=rx;exact SeqAt.EqAt.none_int b t
  | str b=>obtain⟨t,rfl⟩:=rx;exact SeqAt.EqAt.none_str b t
  | _=>exact absurd (show false=true from fx) Bool.false_ne_true
 | bl a =>
  cases ry
  cases x with
  | non=>cases rx;exact SeqAt.EqAt.bool_none a
  | bl b=>cases rx;exact SeqAt.EqAt.bool_bool a b
  | int b=>obtain⟨t,rfl⟩:=rx;exact SeqAt.EqAt.bool_int a b t
  | str b=>obtain⟨t,rfl⟩:=rx;exact SeqAt.EqAt.bool_str a b t
  | _=>exact absurd (show false=true from fx) Bool.false_ne_true
 | int a =>
  obtain⟨t',rfl⟩:=ry
  cases x with
  | non=>cases rx;exact SeqAt.EqAt.int_none a t'
  | bl b=>cases rx;exact SeqAt.EqAt.int_bool a t' b
  | int b=>obtain⟨t,rfl⟩:=rx;exact SeqAt.EqAt.int_int a t' b t
  | str b=>obtain⟨t,rfl⟩:=rx;exact SeqAt.EqAt.int_str a t' b t
  | _=>exact absurd (show false=true from fx) Bool.false_ne_true
 | str a =>
  obtain⟨t',rfl⟩:=ry
  cases x with
  | non=>cases rx;exact SeqAt.EqAt.str_none a t'
  | bl b=>cases rx;exact SeqAt.EqAt.str_bool a t' b
  | int b=>obtain⟨t,rfl⟩:=rx;exact SeqAt.EqAt.str_int a t' b t
  | str b=>obtain⟨t,rfl⟩:=rx;exact SeqAt.EqAt.str_str a t' b t
  | _=>exact absurd (show false=true from fx) Bool.false_ne_true
 | _=>exact absurd (show false=true from fy) Bool.false_ne_true
def eqU (x:V) (u:Value):Bool:=match u with
 | .none=>eqV .non x
 | .bool b=>eqV (.bl b) x
 | .int i _=>eqV (.int i) x
 | .str z _=>eqV (.str z) x
 | _=>false
theorem jg2 {x y:V}{u:Value} (r:RelV y u) (f:j5f y=true):eqU x u=eqV y x:=by
 cases y with
 | non=>cases r;rfl
 | bl b=>cases r;rfl
 | int i=>obtain⟨t,rfl⟩:=r;rfl
 | str z=>obtain⟨t,rfl⟩:=r;rfl
 | _=>exact absurd (show false=true from f) Bool.false_ne_true
theorem j4h {x:V}:∀ {xs:List V}{us:List Value},Vals xs us→xs.all j5f=true→us.any (eqU x)=xs.any fun y=>eqV y x
 | _,_,.nil,_=>rfl
 | y :: xs,u :: us,.cons r t,f=>by
  rw[List.all_cons,Bool.and_eq_true] at f
  rw[List.any_cons,List.any_cons,jg2 r f.1,j4h t f.2]
theorem j2p {A:Around}{s:Shared}{x:V}{v:Value} (rx:RelV x v) (fx:j5f x=true):∀ {xs:List V}{us:List Value},Vals xs us→xs.all j5f=true→∀ u∈us,SeqAt.EqAt A s u v (eqU x u)
 | _,_,.nil,_=>fun u hu=>by cases hu
 | y :: xs,u :: us,.cons r t,f=>fun u' hu=>by
  rw[List.all_cons,Bool.and_eq_true] at f
  rcases List.mem_cons.mp hu with rfl | hu
  ·rw[jg2 r f.1];exact eqAt_V r rx f.1 fx
  ·exact j2p rx fx t f.2 u' hu
def inV (x:V) (xs:List V):Bool:=xs.any fun y=>eqV y x
def rIn (K:PySem.W.Frag) (neg:Bool):R2:=fun x y H Q=>∃ p xs,y=.ref p∧(SqL K H p xs∨SqT K H p xs)∧j5f x=true∧xs.all j5f=true∧Q (.bl (if neg then !inV x xs else inV x xs)) H
theorem jaj:OpR X (compareOp .In) (rIn X.K false):=by
 intro pins s σ H x y v u Q I rx ry h
 obtain⟨p,xs,rfl,hq,fx,fs,q⟩:=h
 cases ry
 rcases hq with hq | hq
 ·obtain⟨its,r,pl,hz⟩:=I.list hq
  refine SeqAt.in_listAt (eqU x) pl.isList (fun w hw=>j2p rx fx r fs w (by simpa using hw)) ⟨.bl _,H,I,rfl,?_⟩
  rw[show its.toArray.any (eqU x)=its.any (eqU x) by simp,j4h r fs]
  exact q
 ·obtain⟨its,r,pl,hz⟩:=I.tuple hq
  refine SeqAt.in_tupleAt (eqU x) pl (fun w hw=>j2p rx fx r fs w (by simpa using hw)) ⟨.bl _,H,I,rfl,?_⟩
  rw[show its.toArray.any (eqU x)=its.any (eqU x) by simp,j4h r fs]
  exact q
theorem j5g:OpR X (compareOp .NotIn) (rIn X.K true):=by
 intro pins s σ H x y v u Q I rx ry h
 obtain⟨p,xs,rfl,hq,fx,fs,q⟩:=h
 cases ry
 rcases hq with hq | hq
 ·obtain⟨its,r,pl,hz⟩:=I.list hq
  refine SeqAt.notIn_listAt (eqU x) pl.isList (fun w hw=>j2p rx fx r fs w (by simpa using hw)) ⟨.bl _,H,I,rfl,?_⟩
  rw[show its.toArray.any (eqU x)=its.any (eqU x) by simp,j4h r fs]
  exact q
 ·obtain⟨its,r,pl,hz⟩:=I.tuple hq
  refine SeqAt.notIn_tupleAt (eqU x) pl (fun w hw=>j2p rx fx r fs w (by simpa using hw)) ⟨.bl _,H,I,rfl,?_⟩
  rw[show its.toArray.any (eqU x)=its.any (eqU x) by simp,j4h r fs]
  exact q
theorem j5h:CallR X (.builtin "len") (fun xs H Q=>∃ z,xs=[.str z]∧z.length≤sizeLine∧Q (.int z.length) H):=by
 intro pins s σ H xs us Q I r h
 obtain⟨z,rfl,hz,q⟩:=h
 obtain⟨u,rfl,t,rfl⟩:=j4a r
 have hn:=j7e
 exact len_str (by omega) ⟨.int z.length,H,I.tok _,⟨_,rfl⟩,q⟩
theorem CallR.or {f:Value}{r r':List V→Hp→VK→Prop} (h:CallR X f r) (h':CallR X f r'):CallR X f (fun xs H Q=>r xs H Q∨r' xs H Q):=by
 intro pins s σ H xs us Q I rs q
 rcases q with q | q
 ·exact h pins s σ H xs us Q I rs q
 ·exact h' pins s σ H xs us Q I rs q
theorem j5i:CallR X (.type "list") (fun xs H Q=>∃ p ys,xs=[.ref p]∧(SqL X.K H p ys∨SqT X.K H p ys)∧∀ l,H l=none→Q (.ref l) (upd H l (.lst ys))):=by
 intro pins s σ H xs us Q I r h
 obtain⟨p,ys,rfl,hq,q⟩:=h
 obtain⟨u,rfl,rx⟩:=j4a r
 cases rx
 have fin:∀ (its:List Value),Vals ys its→ys.length≤sizeLine→∀ (h':Heap) (c':Nat),(∀ b o',s.heap.get? b=some o'→h'.get? b=some o') →
   h'.get? s.heap.objs.size=some { cls:=.type "list",dict:=none,data:=.seq its.toArray c',slots:=#[] }→EP X pins σ Q (.ref s.heap.objs.size) { s with heap:=h' }:=fun its r' hz h' c' kp e =>
  ⟨.ref s.heap.objs.size,_,I.laid (t':=s.toks) kp (Nat.le_refl _) (show ObjOk X.prog X.w _ h' _ (.lst ys) from⟨hz,its,c',r',e⟩),rfl,q _ (I.hok.fresh (Nat.le_refl _))⟩
 rcases hq with hq | hq
 ·obtain⟨its,r',pl,hz⟩:=I.list hq
  have hlen:=r'.length
  obtain⟨o,ho,hc,n,hd⟩:=pl.isList
  exact call_list_seq p (.inl rfl) ho hc hd (fun h' c' kp e=>fin its r' hz h' c' kp e) (by simp only[List.size_toArray] <;> omega)
 ·obtain⟨its,r',pl,hz⟩:=I.tuple hq
  have hlen:=r'.length
  obtain⟨o,ho,hc,n,hd⟩:=pl
  exact call_list_seq p (.inr rfl) ho hc hd (fun h' c' kp e=>fin its r' hz h' c' kp e) (by simp only[List.size_toArray] <;> omega)
theorem j4i:CallR X (.type "tuple") (fun xs H Q=>∃ p ys,xs=[.ref p]∧((SqL X.K H p ys∧∀ l,H l=none→Q (.ref l) (upd H l (.tup ys)))∨(SqT X.K H p ys∧Q (.ref p) H))):=by
 intro pins s σ H xs us Q I r h
 obtain⟨p,ys,rfl,h⟩:=h
 obtain⟨u,rfl,rx⟩:=j4a r
 cases rx
 rcases h with⟨hq,q⟩ | ⟨hq,q⟩
 ·obtain⟨its,r',pl,hz⟩:=I.list hq
  have hlen:=r'.length
  refine call_tuple_list pl.isList (fun h' kp=>?_) (by simp only[List.size_toArray] <;> omega)
  have I1:Inv X pins σ H { s with heap:=h' }:=I.kept (t':=s.toks) kp
  have I2:Inv X pins σ (upd H h'.objs.size (.tup ys)) { s with heap:=h'.push { cls:=.type "tuple",data:=.seq its.toArray } } :=
   I1.laid (t':=s.toks) (fun b o e=>Heap.get?_push_of_some _ e) (Nat.le_refl _) (show ObjOk X.prog X.w _ _ _ (.tup ys) from⟨hz,its,r',TupN.new _ _⟩)
  exact⟨.ref h'.objs.size,_,I2,rfl,q _ (I1.hok.fresh (Nat.le_refl _))⟩
 ·obtain⟨its,r',pl,hz⟩:=I.tuple hq
  exact call_tuple_same pl ⟨.ref p,H,I,rfl,q⟩
def tyV (K:PySem.W.Frag) (T:String) (x:V) (H:Hp):Prop:=match x with
 | .str _=>T="str"
 | .int _=>T="int"
 | .ref p=>(T="list"∧∃ xs,SqL K H p xs)∨(T="tuple"∧∃ o,K.lookup p=some o∧o.cls=.type "tuple"∧o.dict=none) ∨
   (T="dict"∧((∃ kvs,H p=some (.dK kvs))∨∃ kvs,H p=some (.dT kvs)))∨(T="set"∧∃ S n,H p=some (.set S n))
 | _=>False
theorem tyV_is {pins:List (Addr × Obj)}{σ:St}{H:Hp}{s:Shared}{T:String}{x:V}{v:Value} (I:Inv X pins σ H s) (r:RelV x v) (ty:tyV X.K T x H) :
  s.TypeIs v T∧∀ a,v=.ref a→∃ ob,s.heap.get? a=some ob∧ob.dict=none:=by
 cases x with
 | str z =>
  obtain⟨t,rfl⟩:=r
  cases (show T="str" from ty)
  exact⟨typeIs_str s z t,fun _ e=>nomatch e⟩
 | int i =>
  obtain⟨t,rfl⟩:=r
  cases (show T="int" from ty)
  exact⟨typeIs_int s i t,fun _ e=>nomatch e⟩
 | ref p =>
  cases r
  rcases ty with⟨rfl,xs,hq⟩ | ⟨rfl,o,hk,hc,hd⟩ | ⟨rfl,hk⟩ | ⟨rfl,S,n,hk⟩
  ·obtain⟨its,_,pl,_⟩:=I.list hq
   refine⟨pl.isList.typeIs,fun a e=>?_⟩
   cases e
   obtain⟨o,n,e,c,hd,_⟩:=pl
   exact⟨o,e,hd⟩
  ·refine⟨⟨o,I.kIn p o hk,hc⟩,fun a e=>?_⟩
   cases e
   exact⟨o,I.kIn _ o hk,hd⟩
  ·have z:∃ o,s.heap.get? p=some o∧o.ExactDict:=by
    rcases hk with⟨kvs,hk⟩ | ⟨kvs,hk⟩
    ·obtain⟨_,_,_,_,o,_,_,e,ex,_⟩:=I.hok p _ hk
     exact⟨o,e,ex⟩
    ·obtain⟨_,_,_,_,o,_,_,e,ex,_⟩:=I.hok p _ hk
     exact⟨o,e,ex⟩
   obtain⟨o,e,ex⟩:=z
   refine⟨⟨o,e,ex.1⟩,fun a e2=>?_⟩
   cases e2
   exact⟨o,e,ex.2.1⟩
  ·obtain⟨o,_,_,_,e,ex,_⟩:=I.hok p _ hk
   refine⟨⟨o,e,ex.1⟩,fun a e2=>?_⟩
   cases e2
   exact⟨o,e,ex.2.1⟩
 | _=>exact False.elim ty
def tBM (K:PySem.W.Frag) (T:String) (r:V→List V→Hp→VK→Prop) (to:TE) (t:TA):TE:=fun σ H Q=>to σ H fun x H1=>tyV K T x H1∧t σ H1 fun xs H2=>r x xs H2 Q
variable {o e:Expr}{es:List Expr}{to:TE}{t:TA}{name:Str}{apos cpos:Pos}{T id:String}{r:V→List V→Hp→VK→Prop}
theorem jfj (pa:PlainAttrs T) (slot:Slot T name id) (hty:typeOf (.builtin id)=pure (.type "method_descriptor")) (hm:MtR X id r) (ho:PE X o to) (ha:PA X (e :: es) t)
  (hbase:attributeBase o name X.env (eval o X.env)=eval o X.env:=by rfl)
  (hfew:((backTo cpos (starEach (e :: es) X.env)).all (fun x=>!x.1) && (backToKw cpos (keywordEach [] X.env)).all (fun x=>x.1.isSome)
   && decide ((e :: es).length+([]:List Keyword).length+(if ([]:List Keyword).isEmpty then 0 else 1) < 30))=true:=by rfl)
  (hline:(apos.endLine == cpos.line)=true:=by rfl) (hs:starEach (e :: es) X.env=(false,eval e X.env) :: starEach es X.env:=by rfl) (hplain:(backTo cpos (starEach es X.env)).any (·.1)=false:=by rfl) :
  PE X (.Call (.Attribute o name apos) (e :: es) [] cpos) (tBM X.K T r to t):=by
 intro pins s σ H Q I h
 refine wpAny_Call_method_late hbase hfew hline rfl (thn (ho pins s σ H _ I h) fun v s1 ⟨x,H1,I1,r1,ty,q1⟩=>?_)
 obtain⟨h1,h2⟩:=tyV_is I1 r1 ty
 refine⟨T,id,pa,slot,hty,h1,h2,?_⟩
 have hA:=ha cpos pins s1 σ H1 _ I1 q1
 rw[hs] at hA ⊢
 refine Calls.callWith_builtin (by show (false || (backTo cpos (starEach es X.env)).any (·.1))=false;rw[hplain] <;> rfl) (Calls.evalArgs_plain ?_)
 exact thn hA fun us s2 ⟨vs,H2,I2,r2,q2⟩=>hm pins s2 σ H2 x vs v us Q I2 r1 r2 q2
end
def MtM (X:Cx) (id:String) (r:V→List V→Hp→VK→Prop):Prop :=
 ∀ (pins:List (Addr × Obj)) (s:Shared) (σ:St) (H:Hp) (x:V) (xs:List V) (v:Value) (us:List Value) (Q:VK),Inv X pins σ H s→RelV x v→Vals xs us→r x xs H Q →
  wpAny (model X.prog X.w) X.A (call (.builtin id) (v :: us)) (EP X pins σ Q) X.xe s
theorem Vals.one:∀ {x:V}{us:List Value},Vals [x] us→∃ u,us=[u]∧RelV x u
 | _,_,.cons r .nil=>⟨_,rfl,r⟩
theorem Vals.reverse {xs:List V}{us:List Value} (h:Vals xs us):Vals xs.reverse us.reverse:=by
 induction h with
 | nil=>exact .nil
 | cons r t ih=>rw[List.reverse_cons,List.reverse_cons];exact Vals.append ih (.cons r .nil)
section
variable {X:Cx}{pins:List (Addr × Obj)}{σ:St}{H:Hp}{s:Shared}{l b:Addr}{xs ys zs:List V}
theorem Inv.lset {its its':List Value}{n:Nat}{f:Array Value→Array Value}{t':Nat} (I:Inv X pins σ H s) (hH:H l=some (.lst xs))
  (e:s.heap.get? l=some { cls:=.type "list",data:=.seq its.toArray n }) (hf:f its.toArray=its'.toArray) (hv:Vals ys its') (hz:ys.length≤sizeLine) :
  Inv X pins σ (upd H l (.lst ys)) { s with heap:=s.heap.update l (Obj.mapSeq f),toks:=t' }:=by
 have q:=PySem.IsL.update e f
 rw[hf] at q
 refine I.write (x:=l) (e:=l) (by rw[hH];exact trivial) (.inl rfl) (fun b' u hb hu=>(Heap.get?_update_other s.heap (Obj.mapSeq f) (Ne.symm hb)).trans hu) ⟨_,q⟩ ?_
 exact⟨hz,its',_,hv,q⟩
theorem Inv.lnew {its:List Value}{t':Nat} (I:Inv X pins σ H s) (hv:Vals ys its) (hz:ys.length≤sizeLine) :
  Inv X pins σ (upd H s.heap.objs.size (.lst ys)) { s with heap:=s.heap.push { cls:=.type "list",data:=.seq its.toArray },toks:=t' } :=
 I.laid (fun _ _ q=>Heap.get?_push_of_some _ q) (Nat.le_refl _) ⟨hz,its,0,hv,Heap.get?_push_size _ rfl⟩
theorem Inv.fresh (I:Inv X pins σ H s):H s.heap.objs.size=none:=I.hok.fresh (Nat.le_refl _)
theorem Inv.lstM (I:Inv X pins σ H s) (hH:H l=some (.lst xs)):xs.length≤sizeLine∧∃ (its:List Value) (n:Nat),Vals xs its∧xs.length=its.length∧s.heap.get? l=some { cls:=.type "list",data:=.seq its.toArray n }:=by
 obtain⟨z,its,n,r,e⟩:=I.hok l _ hH
 exact⟨z,its,n,r,r.length,e⟩
end
section
variable {X:Cx}
def jca:V→List V→Hp→VK→Prop:=fun x vs H Q=>∃ l xs y,x=.ref l∧vs=[y]∧H l=some (.lst xs)∧xs.length < sizeLine∧Q .non (upd H l (.lst (xs++[y])))
theorem j17:MtM X "list.append" jca:=by
 intro pins s σ H x vs v us Q I rx rv h
 obtain⟨l,xs,y,rfl,rfl,hH,hz,q⟩:=h
 cases rx
 obtain⟨u,rfl,ru⟩:=rv.one
 obtain⟨z,its,n,r,hl,e⟩:=I.lstM hH
 refine call_meets F.slot_list_append ⟨_,e,rfl⟩ F.entry_list_append (F.args_list_append_2 _ _) (PySem.list_append l its.toArray n u (by rw[List.size_toArray];omega)) ⟨e,?_⟩
 refine⟨.non,_,I.lset (its':=its++[u]) hH e (by simp) (r.append (.cons ru .nil)) ?_,rfl,q⟩
 rw[List.length_append,List.length_singleton]
 omega
def rCat:R2:=fun x y H Q=>∃ l b xs zs,x=.ref l∧y=.ref b∧H l=some (.lst xs)∧H b=some (.lst zs)∧xs.length+zs.length≤sizeLine∧∀ p,H p=none→Q (.ref p) (upd H p (.lst (xs++zs)))
theorem op_cat:OpR X (binaryOp .Add) rCat:=by
 intro pins s σ H x y v u Q I rx ry h
 obtain⟨l,b,xs,zs,rfl,rfl,hH,hB,hz,q⟩:=h
 cases rx
 cases ry
 obtain⟨z,its,n,r,hl,e⟩:=I.lstM hH
 obtain⟨z2,its2,n2,r2,hl2,e2⟩:=I.lstM hB
 refine PySem.P.add_list e e2 ?_ (by rw[List.size_toArray,List.size_toArray];omega)
 have ea:its.toArray++its2.toArray=(its++its2).toArray:=by simp
 rw[ea]
 exact⟨.ref _,_,I.lnew (t':=s.toks) (r.append r2) (by rw[List.length_append];omega),rfl,q _ I.fresh⟩
theorem jg3 {α:Type} (xs:List α) (k:Nat):(List.replicate k xs).flatten.length=k * xs.length:=by
 induction k with
 | zero=>simp
 | succ k ih=>rw[List.replicate_succ,List.flatten_cons,List.length_append,ih,Nat.succ_mul,Nat.add_comm]
end
section
variable {κ:Type} [DecidableEq κ]
def valV (kvs:List (κ × V)) (k:κ):Option V:=(kvs.find? fun kv=>decide (kv.1=k)).map (·.2)
def putK (kvs:List (κ × V)) (k:κ) (v:V):List (κ × V) :=
 if (kvs.any fun kv=>decide (kv.1=k))=true then kvs.map (fun kv=>if kv.1=k then (kv.1,v) else kv) else kvs++[(k,v)]
theorem j1b {p:κ × V}{r:List (κ × V)}{k:κ} (e:p.1=k):valV (p :: r) k=some p.2:=by simp[valV,List.find?_cons,e]
theorem j3w {p:κ × V}{r:List (κ × V)}{k:κ} (e:¬ p.1=k):valV (p :: r) k=valV r k:=by simp[valV,List.find?_cons,e]
theorem j5j (k:κ):∀ kvs:List (κ × V),(kvs.any fun kv=>decide (kv.1=k))=(valV kvs k).isSome
 | []=>rfl
 | p :: r=>by
  rw[List.any_cons]
  by_cases e:p.1=k
  ·simp only[j1b e,decide_eq_true e,Bool.true_or,Option.isSome_some]
  ·rw[j3w e,decide_eq_false e,Bool.false_or];exact j5j k r
theorem j3i (kvs:List (κ × V)) (k:κ) (v:V):(putK kvs k v).length≤kvs.length+1:=by
 unfold putK
 split
 ·rw[List.length_map];omega
 ·rw[List.length_append,List.length_cons,List.length_nil];omega
theorem RelO.isSome_eq {o:Option V}{u:Option Value} (r:RelO o u):o.isSome=u.isSome:=by
 cases o with
 | none=>cases u with
  | none=>rfl
  | some _=>exact (show False from r).elim
 | some _=>cases u with
  | none=>exact (show False from r).elim
  | some _=>rfl
theorem KV.val {kvs:List (κ × V)}{vs:List (κ × Value)} (r:KV kvs vs) (k:κ):RelO (valV kvs k) (valueAt vs k):=by
 unfold KV at r
 induction r with
 | nil=>exact True.intro
 | @cons p q ps qs h t ih =>
  obtain⟨h1,h2⟩:=h
  by_cases e:p.1=k
  ·have e':q.1=k:=h1.symm.trans e
   have b:valueAt (q :: qs) k=some q.2:=by simp[valueAt,List.find?_cons,e']
   rw[j1b e,b];exact h2
  ·have e':¬ q.1=k:=fun z=>e (h1.trans z)
   have b:valueAt (q :: qs) k=valueAt qs k:=by simp[valueAt,List.find?_cons,e']
   rw[j3w e,b];exact ih
theorem KV.any {kvs:List (κ × V)}{vs:List (κ × Value)} (r:KV kvs vs) (k:κ):(kvs.any fun kv=>decide (kv.1=k))=vs.any fun kv=>decide (kv.1=k):=by
 unfold KV at r
 induction r with
 | nil=>rfl
 | cons h t ih=>rw[List.any_cons,List.any_cons,ih,h.1]
theorem KV.repl {kvs:List (κ × V)}{vs:List (κ × Value)} (r:KV kvs vs) (k:κ) {y:V}{u:Value} (ry:RelV y u) :
  KV (kvs.map fun kv=>if kv.1=k then (kv.1,y) else kv) (vs.map fun kv=>if kv.1=k then (kv.1,u) else kv):=by
 unfold KV at r ⊢
 induction r with
 | nil=>exact .nil
 | @cons p q ps qs h t ih =>
  rw[List.map_cons,List.map_cons]
  refine .cons ?_ ih
  obtain⟨h1,h2⟩:=h
  by_cases e:p.1=k
  ·rw[if_pos e,if_pos (h1.symm.trans e)];exact⟨h1,ry⟩
  ·rw[if_neg e,if_neg (fun z=>e (h1.trans z))];exact⟨h1,h2⟩
theorem KV.put {kvs:List (κ × V)}{vs:List (κ × Value)} (r:KV kvs vs) (k:κ) {y:V}{u:Value} (ry:RelV y u):KV (putK kvs k y) (stored vs k u):=by
 unfold putK stored
 rw[r.any k]
 by_cases e:(vs.any fun kv=>decide (kv.1=k))=true
 ·rw[if_pos e,if_pos e];exact r.repl k ry
 ·rw[if_neg e,if_neg e];exact Paired.snoc r ⟨rfl,ry⟩
theorem KV.length {kvs:List (κ × V)}{vs:List (κ × Value)} (r:KV kvs vs):kvs.length=vs.length:=Paired.length r
end
theorem jjl {P:Program}{w:World}{k:Key}{u:Value} (r:RelV (kV k) u):(j0r P w).is k u=true:=by
 cases k with
 | inl i=>obtain⟨t,e⟩:=(show ∃ t,u=Value.int i t from r);subst e;exact j7c P w i t
 | inr x=>obtain⟨t,e⟩:=(show ∃ t,u=Value.str x t from r);subst e;exact j7d P w x t
theorem j6j {P:Program}{w:World}:∀ {ks:List Key}{us:List Value},Vals (ks.map kV) us→ItemsAre (j0r P w) ks us
 | [],_,r=>by rw[List.map_nil] at r;cases r;exact .nil
 | k :: ks,_,r=>by
  rw[List.map_cons] at r
  cases r with
  | cons h t=>exact .cons (jjl h) (j6j t)
abbrev KT (H:Hp):List (List Key × V)→List (List Key × Addr × Value)→Prop:=Paired fun p q=>p.1=q.1∧H q.2.1=some (.tup (p.1.map kV))∧RelV p.2 q.2.2
theorem KT.val {H:Hp}{kvs:List (List Key × V)}{xs:List (List Key × Addr × Value)} (r:KT H kvs xs) (k:List Key):RelO (valV kvs k) ((atKey xs k).map (·.2)):=by
 induction r with
 | nil=>exact True.intro
 | @cons p q ps qs h t ih =>
  obtain⟨h1,_,h2⟩:=h
  by_cases e:p.1=k
  ·have e':q.1=k:=h1.symm.trans e
   have b:atKey (q :: qs) k=some q.2:=by simp[atKey,List.find?_cons,e']
   rw[j1b e,b];exact h2
  ·have e':¬ q.1=k:=fun z=>e (h1.trans z)
   have b:atKey (q :: qs) k=atKey qs k:=by simp[atKey,List.find?_cons,e']
   rw[j3w e,b];exact ih
theorem KT.repl {H:Hp}{kvs:List (List Key × V)}{xs:List (List Key × Addr × Value)} (r:KT H kvs xs) (k:List Key) {y:V}{u:Value} (ry:RelV y u) :
  KT H (kvs.map fun kv=>if kv.1=k then (kv.1,y) else kv) (xs.map (putAt k u)):=by
 induction r with
 | nil=>exact .nil
 | @cons p q ps qs h t ih =>
  rw[List.map_cons,List.map_cons]
  refine .cons ?_ ih
  obtain⟨h1,h2,h3⟩:=h
  unfold putAt
  by_cases e:p.1=k
  ·rw[if_pos e,if_pos (h1.symm.trans e)];exact⟨h1,h2,ry⟩
  ·rw[if_neg e,if_neg (fun z=>e (h1.trans z))];exact⟨h1,h2,h3⟩
theorem KT.put {H:Hp}{kvs:List (List Key × V)}{xs:List (List Key × Addr × Value)} (r:KT H kvs xs) (k:List Key) {b:Addr}{y:V}{u:Value} (hb:H b=some (.tup (k.map kV))) (ry:RelV y u) :
  KT H (putK kvs k y) (storedH xs k b u):=by
 have e:(kvs.any fun kv=>decide (kv.1=k))=(atKey xs k).isSome:=by
  rw[j5j,(r.val k).isSome_eq,Option.isSome_map]
 unfold putK storedH
 rw[e]
 by_cases q:(atKey xs k).isSome=true
 ·rw[if_pos q,if_pos q];exact r.repl k ry
 ·rw[if_neg q,if_neg q];exact Paired.snoc r ⟨rfl,hb,ry⟩
theorem KT.keeps {H H':Hp}{kvs:List (List Key × V)}{xs:List (List Key × Addr × Value)} (r:KT H kvs xs) (ht:∀ b ys,H b=some (.tup ys)→H' b=some (.tup ys)):KT H' kvs xs :=
 Paired.mapP r fun _ _ z=>⟨z.1,ht _ _ z.2.1,z.2.2⟩
section
variable {P:Program}{w:World}{H:Hp}{h:Heap}{a:Addr}
theorem rd_of {u:HO} (ok:HOk P w H h) (e:Rd H a u):ObjOk P w H h a u:=e.ok ok
theorem jjd {kvs:List (Key × V)} (ok:HOk P w H h) (e:Rd H a (.dK kvs)):kvs.length≤sizeLine∧(a == sysModules)=false∧∃ vs,KV kvs vs∧h.DictOf (j0r P w) a vs :=
 show ObjOk P w H h a (.dK kvs) from rd_of ok e
theorem dk_of {kvs:List (Key × V)} (ok:HOk P w H h) (e:H a=some (.dK kvs)):kvs.length≤sizeLine∧(a == sysModules)=false∧∃ vs,KV kvs vs∧h.DictOf (j0r P w) a vs:=jjd ok (.inl e)
theorem j8e {ks:List Key} (ok:HOk P w H h) (e:H a=some (.tup (ks.map kV))):(tupleKind (j0r P w)).is h ks a:=by
 obtain⟨_,its,r,⟨o,h1,h2,n,h3⟩,_⟩:=(show ObjOk P w H h a (.tup (ks.map kV)) from ok a _ e)
 exact⟨o,its.toArray,n,h1,h2,h3,by simpa using j6j r⟩
theorem jje {kvs:List (List Key × V)} (ok:HOk P w H h) (e:Rd H a (.dT kvs)):kvs.length≤sizeLine∧(a == sysModules)=false ∧
  ∃ xs,KT H kvs xs∧h.DictOfH (tupleKind (j0r P w)) a xs:=by
 obtain⟨z,y,xs,r,o,es,ep,h1,h2,h3,h4,h5⟩:=(show ObjOk P w H h a (.dT kvs) from rd_of ok e)
 refine⟨z,y,xs,r,o,es,ep,h1,h2,h3,h4,fun x hx=>?_,h5⟩
 have all:∀ {l:List (List Key × V)}{m:List (List Key × Addr × Value)},KT H l m→∀ x∈m,(tupleKind (j0r P w)).is h x.1 x.2.1:=by
  intro l m q
  induction q with
  | nil=>intro x hx;exact nomatch hx
  | @cons p q ps qs hq t ih =>
   intro x hx
   rcases List.mem_cons.mp hx with e | hx
   ·subst e
    exact j8e ok (by rw[← hq.1];exact hq.2.1)
   ·exact ih x hx
 exact all r x hx
theorem jkb {kvs:List (List Key × V)} (ok:HOk P w H h) (e:H a=some (.dT kvs)):kvs.length≤sizeLine∧(a == sysModules)=false ∧
  ∃ xs,KT H kvs xs∧h.DictOfH (tupleKind (j0r P w)) a xs:=jje ok (.inl e)
end
def DGet (H:Hp) (a:Addr) (y:V) (r:Option V):Prop :=
 (∃ kvs k,Rd H a (.dK kvs)∧y=kV k∧r=valV kvs k)∨∃ kvs k b,Rd H a (.dT kvs)∧y=.ref b∧H b=some (.tup (k.map kV))∧r=valV kvs k
def DPut (H:Hp) (a:Addr) (y v:V) (H':Hp):Prop :=
 (∃ kvs k,H a=some (.dK kvs)∧y=kV k∧kvs.length < sizeLine∧H'=upd H a (.dK (putK kvs k v))) ∨
 ∃ kvs k b,H a=some (.dT kvs)∧y=.ref b∧H b=some (.tup (k.map kV))∧kvs.length < sizeLine∧H'=upd H a (.dT (putK kvs k v))
theorem DPut.t {H:Hp}{a b:Addr}{kvs:List (List Key × V)}{k:List Key}{v:V} (e:H a=some (.dT kvs)) (eb:H b=some (.tup (k.map kV))) (hl:kvs.length < sizeLine) :
  DPut H a (.ref b) v (upd H a (.dT (putK kvs k v))):=.inr ⟨kvs,k,b,e,rfl,eb,hl,rfl⟩
section
variable {X:Cx}{pins:List (Addr × Obj)}{σ:St}{H:Hp}{s:Shared}{a:Addr}{y v:V}{u r:Value}{o:Option V}{A:Around}{E:Value→Shared→Prop}
theorem Inv.big (I:Inv X pins σ H s):sysModules < s.heap.objs.size:=by
 have h:mainGlobals < s.heap.objs.size:=(I.mod.glob.keeps I.bk).lt
 exact Nat.lt_trans (by decide) h
theorem jak {Q:Value→Shared→Prop} (hu:A.units+1 < cLine) (I:Inv X pins σ H s) (g:DGet H a y (some v)) (ry:RelV y u) (h:∀ w' s',Inv X pins σ H s'→RelV v w'→Q w' s') :
  wpAny (model X.prog X.w) A (getItem (.ref a) u) Q E s:=by
 rcases g with⟨kvs,k,e,ey,l⟩ | ⟨kvs,k,b,e,ey,eb,l⟩
 ·subst ey
  obtain⟨z,hd,vs,rel,dd⟩:=jjd I.hok e
  obtain⟨w',hw,rw'⟩:=RelO.some_of (v:=v) (o:=valueAt vs k) (by rw[l];exact rel.val k)
  exact wpAny_getItem_of (jjl ry) dd.mapOf hw (h w' _ (I.tok _) rw')
 ·subst ey
  cases (show u=Value.ref b from ry)
  obtain⟨z,hd,xs,rel,dd⟩:=jje I.hok e
  obtain⟨w',hw,rw'⟩:=RelO.some_of (v:=v) (o:=(atKey xs k).map (·.2)) (by rw[l];exact rel.val k)
  obtain⟨p,hp,hp2⟩:=Option.map_eq_some_iff.mp hw
  refine wpAny_getItem_heap (tupleKind_room_in1 hu) (j8e I.hok eb) dd hp ?_
  rw[hp2]
  exact h w' _ (I.tok _) rw'
theorem jg4 {Q:Value→Shared→Prop} (hu:A.units+1 < cLine) (I:Inv X pins σ H s) (g:DGet H a y o) (ry:RelV y u) (h:∀ s',Inv X pins σ H s'→Q (.bool (!o.isSome)) s') :
  wpAny (model X.prog X.w) A (compareOp .NotIn u (.ref a)) Q E s:=by
 rcases g with⟨kvs,k,e,ey,l⟩ | ⟨kvs,k,b,e,ey,eb,l⟩
 ·subst ey
  obtain⟨z,hd,vs,rel,dd⟩:=jjd I.hok e
  refine wpAny_notIn_of (jjl ry) hd dd.mapOf ?_
  rw[← (rel.val k).isSome_eq,← l]
  exact h _ (I.tok _)
 ·subst ey
  cases (show u=Value.ref b from ry)
  obtain⟨z,hd,xs,rel,dd⟩:=jje I.hok e
  refine wpAny_notIn_heap (tupleKind_room_in1 hu) (j8e I.hok eb) hd dd ?_
  have q:=(rel.val k).isSome_eq
  rw[Option.isSome_map] at q
  rw[← q,← l]
  exact h _ (I.tok _)
theorem j8f {h':Heap}{t':Nat}{ob:HO} (I:Inv X pins σ H s) (mu:Mut (H a)) (hs:Heap.SameBut a s.heap h') (he:∃ q,h'.get? a=some q) (new:ObjOk X.prog X.w (upd H a ob) h' a ob) :
  Inv X pins σ (upd H a ob) { s with heap:=h',toks:=t' } :=
 I.write (x:=a) (e:=a) mu (.inl rfl) (fun b q hb z=>(hs.2 b hb).trans z) he new
theorem dk_new {P:Program}{w:World}{H':Hp}{h':Heap}{kvs:List (Key × V)}{vs:List (Key × Value)} (z:kvs.length≤sizeLine) (hd:(a == sysModules)=false) (rel:KV kvs vs) (dd:h'.DictOf (j0r P w) a vs) :
  ObjOk P w H' h' a (.dK kvs):=⟨z,hd,vs,rel,dd⟩
theorem jal {H':Hp}{Q:Unit→Shared→Prop} (hu:A.units+1 < cLine) (I:Inv X pins σ H s) (g:DPut H a y v H') (ry:RelV y u) (rv:RelV v r) (h:∀ s',Inv X pins σ H' s'→Q () s') :
  wpAny (model X.prog X.w) A (setItem (.ref a) u r) Q E s:=by
 rcases g with⟨kvs,k,e,ey,l,eH⟩ | ⟨kvs,k,b,e,ey,eb,l,eH⟩
 ·subst ey eH
  obtain⟨z,hd,vs,rel,dd⟩:=dk_of I.hok e
  have hz:vs.length≤sizeLine:=by rw[← rel.length];exact z
  have hl:(putK kvs k v).length≤sizeLine:=by have:=j3i kvs k v;omega
  refine wpAny_setItem_pairs (hsz:=hz) (jjl ry) dd fun h' dd' hs=>h _ ?_
  have he:∃ q,h'.get? a=some q:=let ⟨q,_,_,hq,_⟩:=dd';⟨q,hq⟩
  exact j8f I (by rw[e];exact True.intro) hs he (dk_new hl hd (rel.put k rv) dd')
 ·subst ey eH
  cases (show u=Value.ref b from ry)
  obtain⟨z,hd,xs,rel,dd⟩:=jkb I.hok e
  have hz:xs.length≤sizeLine:=by rw[← Paired.length rel];exact z
  have hl:(putK kvs k v).length≤sizeLine:=by have:=j3i kvs k v;omega
  refine wpAny_setItem_heap (hsz:=hz) (tupleKind_room_in1 hu) (j8e I.hok eb) dd fun h' dd' hs=>h _ ?_
  obtain⟨q,es,ep,hq,h2,h3,h4,_,h5⟩:=dd'
  refine j8f I (by rw[e];exact True.intro) hs ⟨q,hq⟩ ⟨hl,hd,_,(rel.put k eb rv).keeps fun c ys ec=>?_,q,es,ep,hq,h2,h3,h4,h5⟩
  rw[j08 (ne_of ec e (fun z=>nomatch z))]
  exact ec
end
def NoSl (i:Expr):Prop:=∀ ov iv,subscripted i false ov iv=operate [ov,iv] (getItem ov iv)
theorem jg5 {prog:Program}{w:World}{A:Around}{E:Value→Shared→Prop}{s:Shared}{env:Env}{value slice:Expr}{pos:Pos}{T id:String}{Q:Value→Shared→Prop}
  (hl:typeLookup (.type T) "__getitem__"=pure (some (.builtin id))) (hs:NoSl slice)
  (h:wpAny (model prog w) A (eval value env) (fun o s₁=>wpAny (model prog w) A (eval slice env) (fun i s₂=>s₂.TypeIs o T∧wpAny (model prog w) A (getItem o i) Q E s₂) E s₁) E s) :
  wpAny (model prog w) A (eval (.Subscript value slice pos) env) Q E s:=by
 refine Subscript_ (wpAny_mono h (fun o s₁ h₁=>wpAny_mono h₁ (fun i s₂ h₂=>?_) fun _ _ x=>x) fun _ _ x=>x)
 obtain⟨hT,h₂⟩:=h₂
 unfold subscriptTail
 refine wpAny_bind ?_
 rw[getitemInPython_of_ne hT.not_modules]
 refine wpAny_bind (wpAny_specialOf hT hl ?_)
 have fin:wpAny (model prog w) A (subscripted slice false o i) (fun r s₃=>wpAny (model prog w) A (letTemporaryGo value o r >>= fun _=>pure r) Q E s₃) E s₂:=by
  rw[hs o i]
  exact wpAny_operating (wpAny_mono h₂ (fun r s₃ h₃=>wpAny_bind (wpAny_letTemporaryGo (wpAny_pure h₃))) fun _ _ x=>x)
 first
  | exact wpAny_pure (wpAny_bind fin)
  | exact wpAny_bind (wpAny_pure (wpAny_bind fin))
  | exact wpAny_bind fin
theorem j7g {X:Cx}{pins:List (Addr × Obj)}{σ:St}{H:Hp}{s:Shared}{a:Addr}{y:V}{o:Option V} (I:Inv X pins σ H s) (g:DGet H a y o):s.TypeIs (.ref a) "dict":=by
 rcases g with⟨kvs,k,e,_,_⟩ | ⟨kvs,k,b,e,_,_,_⟩
 ·obtain⟨_,_,vs,_,dd⟩:=jjd I.hok e
  exact dd.typeIs
 ·obtain⟨_,_,xs,_,dd⟩:=jje I.hok e
  exact dd.typeIs
def jkd (td ty:TE):TE:=fun σ H Q=>td σ H fun x H1=>ty σ H1 fun y H2=>∃ a v,x=.ref a∧DGet H2 a y (some v)∧Q v H2
def jke (td ty tv:TE):TS:=fun D σ H=>tv σ H fun v H1=>td σ H1 fun x H2=>ty σ H2 fun y H3=>∃ a H4,x=.ref a∧DPut H3 a y v H4∧D.nx σ H4
section
variable {X:Cx}{o i e value:Expr}{pos pos' tpos:Pos}{td ty tv:TE}
theorem jg6 (hu:X.A.units+1 < cLine) (ho:PE X o td) (hi:PE X i ty) (hs:NoSl i):PE X (.Subscript o i pos) (jkd td ty):=by
 intro pins s σ H Q I h
 refine jg5 PySem.F.slot_dict_getitem.lookup hs (thn (ho pins s σ H _ I h) fun u s1 ⟨x,H1,I1,rx,q1⟩=>thn (hi pins s1 σ H1 _ I1 q1) fun iv s2 ⟨y,H2,I2,ry,a,v,ex,g,q2⟩=>?_)
 subst ex
 obtain rfl:u=Value.ref a:=rx
 exact⟨j7g I2 g,jak hu I2 g ry fun w' s3 I3 rw'=>⟨v,H2,I3,rw',q2⟩⟩
theorem jg7 (hu:X.A.units+1 < cLine) (ho:PE X o td) (hi:PE X i ty) (hv:PE X value tv) (hs:swapsWith value (some (.Subscript o i pos')) pos.line X.env=pure false) :
  PS X (.Assign [.Subscript o i pos'] value pos) (jke td ty tv):=by
 intro pins s σ H D I h
 refine wpAny_Assign_Subscript (thn (hv pins s σ H _ I h) fun r s1 ⟨v,H1,I1,rv,q1⟩=>thn (ho pins s1 σ H1 _ I1 q1) fun u s2 ⟨x,H2,I2,rx,q2⟩=>thn (hi pins s2 σ H2 _ I2 q2) fun iv s3 ⟨y,H3,I3,ry,a,H4,ex,g,q3⟩=>?_) hs
 subst ex
 obtain rfl:u=Value.ref a:=rx
 exact jal hu I3 g ry rv fun s4 I4=>⟨σ,H4,I4,q3⟩
end
theorem j8g {P:Program}{w:World}{H:Hp} (h:Heap) (hb:sysModules < h.objs.size):ObjOk P w H (h.push { cls:=.type "dict",data:=.dict #[] }) h.objs.size (.dT []) :=
 ⟨Nat.zero_le _,beq_eq_false_iff_ne.mpr (Ne.symm (Nat.ne_of_lt hb)),[],.nil,_,#[],0,Heap.get?_push_size _ rfl,⟨rfl,rfl,rfl⟩,rfl,rfl,List.nodup_nil⟩
def jg8:TE:=fun _ H Q=>∀ p,H p=none→Q (.ref p) (upd H p (.dT []))
section
variable {X:Cx}{pos:Pos}
theorem j8h:PE X (.Dict [] [] pos) jg8:=fun pins s σ H Q I h =>
 wpAny_Dict_empty ⟨.ref s.heap.objs.size,_,I.laid (a:=s.heap.objs.size) (o:=.dT []) (t':=s.toks) (fun _ _ q=>Heap.get?_push_of_some _ q) (Nat.le_refl _) (j8g s.heap I.big),rfl,h _ (I.hok.fresh (Nat.le_refl _))⟩
end
def jdj:List (TE × TE)→St→Hp→(List (V × V)→Hp→Prop)→Prop
 | [],_,H,Q=>Q [] H
 | (tk,tv) :: r,σ,H,Q=>tk σ H fun x H1=>tv σ H1 fun y H2=>jdj r σ H2 fun ps H3=>Q ((x,y) :: ps) H3
abbrev VV:List (V × V)→List (Value × Value)→Prop:=Paired fun p q=>RelV p.1 q.1∧RelV p.2 q.2
def PPs (X:Cx) (pos:Pos) (keys:List (Option Expr)) (values:List Expr) (trs:List (TE × TE)):Prop :=
 ∀ (pins:List (Addr × Obj)) (s:Shared) (σ:St) (H:Hp) (Q:List (V × V)→Hp→Prop),Inv X pins σ H s→jdj trs σ H Q →
  wpAny (model X.prog X.w) X.A (evalPairs (pairTrees keys values X.env pos)) (fun vs s'=>∃ ps H',Inv X pins σ H' s'∧VV ps vs∧Q ps H') X.xe s
theorem jg9 {X:Cx}{pos:Pos}:PPs X pos [] [] []:=fun pins s σ H Q I h=>pairTrees_nil_walk ⟨[],H,I,.nil,h⟩
theorem jdk {X:Cx}{pos:Pos}{k v:Expr}{ks:List (Option Expr)}{vs:List Expr}{tk tv:TE}{trs:List (TE × TE)} (hk:PE X k tk) (hv:PE X v tv) (hr:PPs X pos ks vs trs) :
  PPs X pos (some k :: ks) (v :: vs) ((tk,tv) :: trs):=fun pins s σ H Q I h =>
 pairTrees_cons_walk (thn (hk pins s σ H _ I h) fun u s1 ⟨x,H1,I1,rx,q1⟩=>thn (hv pins s1 σ H1 _ I1 q1) fun w2 s2 ⟨y,H2,I2,ry,q2⟩ =>
  thn (hr pins s2 σ H2 _ I2 q2) fun ws s3 ⟨ps,H3,I3,rel,q3⟩=>⟨(x,y) :: ps,H3,I3,.cons ⟨rx,ry⟩ rel,q3⟩)
structure M1 (X:Cx) (o:Expr) (m:Str) (apos:Pos) (e:Expr) (cpos:Pos):Prop where
 base:attributeBase o m X.env (eval o X.env)=eval o X.env
 few:((backTo cpos (starEach [e] X.env)).all (fun x=>!x.1) && (backToKw cpos (keywordEach [] X.env)).all (fun x=>x.1.isSome)
  && decide (([e]:List Expr).length+([]:List Keyword).length+(if ([]:List Keyword).isEmpty then 0 else 1) < 30))=true
 line:(apos.endLine == cpos.line)=true
 trees:backTo cpos (starEach [e] X.env)=[(false,eval e X.env)]
structure M2 (X:Cx) (o:Expr) (m:Str) (apos:Pos) (e f:Expr) (cpos:Pos):Prop where
 base:attributeBase o m X.env (eval o X.env)=eval o X.env
 few:((backTo cpos (starEach [e,f] X.env)).all (fun x=>!x.1) && (backToKw cpos (keywordEach [] X.env)).all (fun x=>x.1.isSome)
  && decide (([e,f]:List Expr).length+([]:List Keyword).length+(if ([]:List Keyword).isEmpty then 0 else 1) < 30))=true
 line:(apos.endLine == cpos.line)=true
 trees:backTo cpos (starEach [e,f] X.env)=[(false,eval e X.env),(false,eval f X.env)]
end L2
namespace Att
open PySem PySem.W PySem.Calls PyProof.Rows
theorem j37 {P:Params}{h:Heap}:∀ (ns:List Int) (vs:List Value),WellAll P h vs (ns.map WData.int)→IntsAre vs ns:=by
 intro ns
 induction ns with
 | nil =>
  intro vs w
  rw[List.map_nil] at w
  cases w
  exact .nil
 | cons n ns ih =>
  intro vs w
  rw[List.map_cons] at w
  cases w with
  | cons a b =>
   cases a
   exact .cons _ _ (ih _ b)
theorem script_of {l:OpenLaw}{n:Nat} (hn:l.most=some n) {P:Params}{h:Heap}{args:List WData}{vals:List Value}
  (hpre:l.row.toRowW.claim.pre args=true) (hwl:WellAll P h vals args) :
  ∃ a vs ns,vals=[Value.ref a]∧args=[WData.list (ns.map WData.int)]∧h.get? a=some { cls:=.type "list",data:=.seq vs.toArray }∧IntsAre vs ns∧ns.length≤n:=by
 have hsh:WShape.hasAll [] args [.list .int]=true:=(pre_splitW hpre).1
 have hc:l.pre.holds [] { args:=args }=true:=(pre_splitW hpre).2
 obtain⟨d,r,rfl,h1,h2⟩:=hasAllW_cons hsh
 obtain rfl:=hasAllW_nil h2
 obtain⟨xs,rfl,h3⟩:=hasW_list h1
 obtain⟨ns,rfl⟩:=items_int h3
 have hlen:ns.length≤n:=by
  unfold OpenLaw.pre at hc
  have h4:(WTm.not (.lt (.lit (.int (n:Int))) (.len (.arg 0)))).holds [] { args:=[.list (ns.map .int)] }=true:=by
   have h4:=(holds_andW hc).1
   rw[hn] at h4
   exact h4
  have h5:=condW_of h4 (w_not (w_lt w_lit (w_len_list (w_arg rfl))))
  rw[List.length_map] at h5
  refine Nat.le_of_not_lt fun q=>?_
  have q':(n:Int) < ((ns.length:Nat):Int):=by omega
  first
   | (rw[decide_eq_true q'] at h5;exact absurd h5 (by decide))
   | (simp at h5;omega)
 cases hwl with
 | cons w1 w2 =>
  cases w2
  cases w1 with
  | list ho hall=>exact⟨_,_,ns,rfl,rfl,ho,j37 ns _ hall,hlen⟩
theorem post_true (l:OpenLaw) (args:List WData):l.row.toRowW.claim.post args (.bool true) args=true :=
 postW_of (r:=l.row.toRowW) (X:=(true == true))
  (show WShape.has [] (.bool true) .bool=true by first | rfl | decide | simp[WShape.has,WShape.arms,WShape.armsAll])
  (show (WTm.eq .res (.lit (.bool true))).value [] { args:=args,res:=some (.bool true),after:=args }=some (.bool (true == true)) from w_eq_bool (w_res rfl) w_lit) rfl
theorem attach_call {l:OpenLaw}{n:Nat}{q:Program}{loose:List Str}{XP:(Str→Option Value)→Heap→Prop}{YP:World→Heap→Prop}{d:DefRec}
  (hn:l.most=some n) (hdf:d.params.defaults=[])
  (call:∀ (w:World) (s₀ s₁:Shared) (mg mb:Str→Option Value) (fa:Addr) (o:Obj) (pm cd doc:Value) (a:Addr) (vs:List Value) (ns:List Int),
   Ground q loose [] XP w s₀ mg mb s₁.heap→YP w s₁.heap →
   s₁.heap.get? fa=some o→o.data=.func (docDef d.name d.params d.body d.scope pm cd doc)→s₁.heap.CodeRec cd d.name→mg d.name=some (.ref fa) →
   s₁.heap.get? a=some { cls:=.type "list",data:=.seq vs.toArray }→IntsAre vs ns→ns.length≤n→s₁.gens=#[] →
   codeAny (model l.prog w) callerA (.call (.ref fa) ⟨[.ref a],[]⟩) (fun r s'=>r=.ok (.ret (.bool true))∧OldK s₁.heap s'.heap∧s'.os=s₁.os∧AllBare s'.gens) s₁) :
  WalkO q loose XP YP l.row.toRowW d [] (fun f vs=>PySem.call f vs):=by
 intro w s₀ s₁ mg mb G Y fa o pm cd doc dV kV ho hd hcd hD hmg hg args vals as hpre hlay hrd hwl hlo
 obtain rfl:dV=.none:=Dflts.none hD hdf
 obtain rfl:kV=.none:=Dflts.noKw hD
 obtain⟨a,vs,ns,rfl,rfl,hobj,hints,hlen⟩:=script_of hn hpre hwl
 refine enter_call (codeAny_mono (call w s₀ s₁ mg mb fa o pm cd doc a vs ns G Y ho (fd_plain hd) hcd hmg hobj hints hlen hg) fun r s' hq=>?_)
 obtain⟨rfl,h2,h3,h4⟩:=hq
 exact⟨.inl ⟨.bool true,.bool true,[],rfl,fun _=>rfl,.bool true,post_true l _,fun _=>⟨List.Pairwise.nil,fun _ hm=>(nomatch hm)⟩⟩,h2,h3,h4⟩
end Att
namespace L2
open PySem PySem.Spec PyProof.Rows
theorem j1y:∀ {vs:List Value}{ns:List Int},IntsAre vs ns→Vals (ns.map V.int) vs
 | _,_,.nil=>.nil
 | _,_,.cons n t h=>.cons ⟨t,rfl⟩ (j1y h)
def Only (H:Hp):Prop:=∀ b,H b=none∨∃ o xs,H b=some (.frz o (.lst xs))
theorem jdl {P:Program}{w:World}{K:PySem.W.Frag}{mg mb:Str→Option Value}{CX:CXT}{k:Nat}{fa a:Addr}{fd:FuncData}{x:Str}{sp:Sp}{s₁:Shared}{vs:List Value}{ns:List Int}
  (KX:K.In s₁.heap) (hns:s₁.heap.Ns mainGlobals mg) (hb:s₁.heap.Ns builtinsNs mb) (hbb:∀ x:Str,x≠"__name__"→mb x=bootBuiltins x) (hlim:s₁.heap.NoLimit) (hbm:∃ bm ob,mg "__builtins__"=some (.ref bm)∧bm≠builtinsNs∧s₁.heap.get? bm=some ob∧ob.cls=.type "module"∧ob.dict=some builtinsNs∧ob.data=.plain) (hg:s₁.gens=#[])
  (ha:s₁.heap.get? a=some { cls:=.type "list",data:=.seq vs.toArray }) (hi:IntsAre vs ns) (hl:ns.length≤sizeLine) (hr:Room k callerA)
  (F:∀ base:Heap,K.In base→base.Ns mainGlobals mg→FnOk P w K mg base CX k fa fd [x] sp) (hbind:∀ (s:Shared) (u:Value),BindsTo s fd ⟨[u],[]⟩ [(x,u)])
  (hsp:∀ H:Hp,Only H→SqL K H a (ns.map V.int)→sp [.ref a] H (fun v _=>v=.bl true) fun _ _ _=>False)
  (hCX:∀ H e s',CX [] H s₁ (fun _ _ _=>False) e s'→False) :
  codeAny (model P w) callerA (.call (.ref fa) ⟨[.ref a],[]⟩) (fun r s'=>r=.ok (.ret (.bool true))∧OldK s₁.heap s'.heap∧s'.os=s₁.os∧AllBare s'.gens) s₁:=by
 have rv:=j1y hi
 have lenV:=hi.length
 have core:∀ H:Hp,Only H→SqL K H a (ns.map V.int)→HOk P w H s₁.heap→(∀ b,H b≠none→b=a)→(H a≠none→K.lookup a=none) →
   codeAny (model P w) callerA (.call (.ref fa) ⟨[.ref a],[]⟩) (fun r s'=>r=.ok (.ret (.bool true))∧OldK s₁.heap s'.heap∧s'.os=s₁.os∧AllBare s'.gens) s₁:=by
  intro H hO hS hok hA hK
  have base_of:∀ {b:Addr}{o:Obj},s₁.heap.get? b=some o→H b=none→(hidT s₁.heap H).get? b=some o:=fun e n=>j7x e n
  have noA:∀ {b:Addr}{o:Obj}{es:Array DictEntry}{ep:Nat},s₁.heap.get? b=some o→o.data=.dict es ep→H b=none:=fun {b o es ep} e d=>by
   cases q:H b with
   | none=>rfl
   | some u =>
    have e':b=a:=hA b (by rw[q];simp)
    subst e'
    rw[ha] at e;cases e
    have d':Data.seq vs.toArray _=Data.dict es ep:=d
    cases d'
  have nsK:∀ {b:Addr}{m:Str→Option Value},s₁.heap.Ns b m→(hidT s₁.heap H).Ns b m:=fun {b m} ⟨o,es,ep,e,d,r⟩=>⟨o,es,ep,base_of e (noA e d),d,r⟩
  have hKb:K.In (hidT s₁.heap H):=fun b o e=>base_of (KX b o e) (by
   cases q:H b with
   | none=>rfl
   | some u =>
    have e':b=a:=hA b (by rw[q];simp)
    subst e'
    rw[hK (by rw[q];simp)] at e;cases e)
  have hM:Mod K mg (hidT s₁.heap H):=⟨hKb,nsK hns,⟨mb,nsK hb,hbb⟩,let ⟨mc,h1,h2⟩:=hlim;⟨mc,nsK h1,h2⟩,by
   obtain⟨bm,ob,b1,b2,b3,b4,b5⟩:=hbm
   refine⟨bm,ob,b1,b2,base_of b3 ?_,b4,b5⟩
   cases q:H bm with
   | none=>rfl
   | some u =>
    have e':bm=a:=hA bm (by rw[q];simp)
    subst e'
    rw[ha] at b3
    cases b3
    injection b4 with b4
    exact absurd b4 (by decide)⟩
  have e0:Env0 P w K mg (hidT s₁.heap H) callerA [] s₁ H:=⟨rfl,hM,fun b o e=>jc2 e,Nat.le_of_eq (j6b _ _),trivial,fun b hb=>absurd (show b∈([]:List Addr) from hb) (by simp),hok,.of_eq hg⟩
  refine codeAny_mono ((F _ hKb (nsK hns)).run callerA [] s₁ H ⟨[.ref a],[]⟩ [.ref a] [.ref a] _ _ hr e0 (hbind s₁ (.ref a)) (.cons rfl .nil) (hsp H hO hS)) fun r s' h=>?_
  cases r with
  | error e=>exact (hCX H e s' h).elim
  | ok fl =>
   cases fl with
   | next=>exact False.elim h
   | brk=>exact False.elim h
   | cont=>exact False.elim h
   | ret u =>
    obtain⟨v,H',os,bare,un,hok',r',q⟩:=h
    have q':v=.bl true:=q
    subst q'
    obtain rfl:u=Value.bool true:=r'
    refine⟨rfl,OldK.of_keep fun b o e=>?_,os,bare⟩
    cases q:H b with
    | none=>exact un.keep b o e q (by intro z;exact absurd (show b∈([]:List Addr) from z) (by simp)) (by simp)
    | some u =>
     rcases hO b with z | ⟨ob,xs,z⟩
     ·rw[q] at z;cases z
     ·have z2:=un.frzs b ob _ z
      obtain⟨e1,_⟩:=hok b _ z
      obtain⟨e2,_⟩:=hok' b _ z2
      rw[e] at e1;cases e1
      exact e2
 cases hk:K.lookup a with
 | some o =>
  have e:=KX a o hk
  rw[ha] at e
  cases e
  refine core (fun _=>none) (fun _=>.inl rfl) (.inr ⟨_,vs.toArray,_,hk,rfl,rfl,rfl,by rw[List.size_toArray,lenV];exact hl,by simpa using rv⟩) (fun b u z=>by have z':(none:Option HO)=some u:=z;cases z') (fun b z=>absurd rfl z) fun z=>absurd rfl z
 | none =>
  refine core (fun b=>if b=a then some (.frz { cls:=.type "list",data:=.seq vs.toArray } (.lst (ns.map V.int))) else none) (fun b=>?_) (.inl (.inr ⟨{ cls:=.type "list",data:=.seq vs.toArray },if_pos rfl⟩)) (fun b u z=>?_) (fun b z=>?_) fun _=>hk
  ·by_cases hb:b=a
   ·exact .inr ⟨_,_,if_pos hb⟩
   ·exact .inl (if_neg hb)
  ·by_cases hb:b=a
   ·have z':=(if_pos hb).symm.trans z
    cases z'
    subst hb
    exact⟨ha,by rw[List.length_map];exact hl,vs,_,rv,ha⟩
   ·have z':=(if_neg hb).symm.trans z
    cases z'
  ·by_cases hb:b=a
   ·exact hb
   ·exact absurd (if_neg hb) z
abbrev KOf {K:PySem.W.Frag}{h:Heap} (_:K.In h):PySem.W.Frag:=K
theorem walk_of {l:PySem.W.OpenLaw}{n k:Nat}{q:Program}{loose:List Str}{XP:(Str→Option Value)→Heap→Prop}{YP:World→Heap→Prop}{d:DefRec}{K:Params→PySem.W.Frag}{CX:World→CXT}{sp:World→Sp}{x:Str}
  (hn:l.most=some n) (hn2:n≤sizeLine) (hdf:d.params.defaults=[]) (hr:Room k callerA)
  (hY:∀ (w:World) (h:Heap),YP w h→(K w.params).In h)
  (F:∀ (w:World) (mg:Str→Option Value) (fa:Addr) (h:Heap),(K w.params).In h→h.Ns mainGlobals mg→mg d.name=some (.ref fa) →
   ∃ fd:FuncData,(∀ (s:Shared) (u:Value),BindsTo s fd ⟨[u],[]⟩ [(x,u)]) ∧
    ∀ base:Heap,(K w.params).In base→base.Ns mainGlobals mg→FnOk l.prog w (K w.params) mg base (CX w) k fa fd [x] (sp w))
  (hsp:∀ (w:World) (H:Hp) (a:Addr) (ns:List Int),ns.length≤n→Only H→SqL (K w.params) H a (ns.map V.int)→sp w [.ref a] H (fun v _=>v=.bl true) fun _ _ _=>False)
  (hCX:∀ (w:World) (H:Hp) (s:Shared) (e:Value) (s':Shared),CX w [] H s (fun _ _ _=>False) e s'→False) :
  PySem.W.WalkO q loose XP YP l.row.toRowW d [] (fun f vs=>PySem.call f vs):=by
 refine Att.attach_call hn hdf fun w s₀ s₁ mg mb fa o pm cd doc a vs ns G Y ho hd hcd hmg hobj hints hlen hg=>?_
 have KX:=hY w _ Y
 obtain⟨fd,hb,hF⟩:=F w mg fa _ KX G.T.g hmg
 exact jdl KX G.T.g G.T.b G.T.builtins G.T.nolimit G.T.bmain hg hobj hints (Nat.le_trans hlen hn2) hr hF hb (fun H hO hS=>hsp w H a ns hlen hO hS) fun H e s'=>hCX w H s₁ e s'
def j1m (s:Stmt) (j:Nat):Stmt:=match s with
 | .ClassDef _ _ _ body _ _ _ _ _ _ _=>body.getD j (.Pass ⟨0,0,0,0⟩)
 | _=>.Pass ⟨0,0,0,0⟩
def j0b (s:Stmt):Arguments:=match s with
 | .FunctionDef _ a _ _ _ _ _ _ _ _=>a
 | _=>{ posonlyargs:=[],args:=[],vararg:=none,kwonlyargs:=[],kw_defaults:=[],kwarg:=none,defaults:=[] }
def j0a (s:Stmt):List Stmt:=match s with
 | .FunctionDef _ _ b _ _ _ _ _ _ _=>b
 | _=>[]
def j01 (s:Stmt):Scope:=match s with
 | .FunctionDef _ _ _ _ _ _ sc _ _ _=>sc
 | _=>{ kind:=.function,names:=[],isGenerator:=false,isCoroutine:=false }
abbrev E0:XK:=fun _ _ _=>False
structure Fun (K:PySem.W.Frag) (x qual:Str) (st:Stmt) (f:Addr) (fd:FuncData):Prop where
 ex:∃ (oc:Value) (od:Option Addr) (kV doc pm:Value) (an:Option Addr) (cdv ct:Value) (osl:Array (Option Value)),
  fd=PySem.W.fnOf x qual (j0b st) (j0a st) (j01 st) .none kV doc pm an cdv ct∧K.lookup f=some ⟨oc,od,.func fd,osl⟩∧PySem.W.codeIn K cdv qual=true
 kp:PySem.W.keepIn K (.ref f)=true
section
variable {P:Program}{w:World}{K:PySem.W.Frag}{mg:Str→Option Value}{base:Heap}
theorem Fun.binds {x qual:Str}{st:Stmt}{f:Addr}{fd:FuncData}{ps:List Str} (F:Fun K x qual st f fd)
  (h:∀ (kV doc pm:Value) (an:Option Addr) (cdv ct:Value) (us:List Value),us.length=ps.length→bindArgs (PySem.W.fnOf x qual (j0b st) (j0a st) (j01 st) .none kV doc pm an cdv ct) ⟨us,[]⟩=pure (ps.zip us)):Binds K fd ps []:=by
 obtain⟨oc,od,kV,doc,pm,an,cdv,ct,osl,rfl,lk,hcd⟩:=F.ex
 exact .all (h kV doc pm an cdv ct)
theorem j0p {x qual:Str}{st:Stmt}{f:Addr}{oc:Value}{od an:Option Addr}{osl:Array (Option Value)}{kV doc pm cdv ct:Value} (l:K.lookup f=some ⟨oc,od,.func (PySem.W.fnOf x qual (j0b st) (j0a st) (j01 st) .none kV doc pm an cdv ct),osl⟩)
  (c:PySem.W.codeIn K cdv qual=true) (k:PySem.W.keepIn K (.ref f)=true):Fun K x qual st f (PySem.W.fnOf x qual (j0b st) (j0a st) (j01 st) .none kV doc pm an cdv ct):=⟨⟨oc,od,kV,doc,pm,an,cdv,ct,osl,rfl,l,c⟩,k⟩
end
theorem jam {n:Nat} (h:n≤1000):n < sizeLine:=Nat.lt_of_le_of_lt h (by decide)
section
variable {X:Cx}
theorem pv (i:Nat) {x:Str}{pos:Pos} (hN:X.N[i]?=some x:=by rfl) (hv:Vis X.env.scope x:=by first | exact Or.inl rfl | exact Or.inr (Or.inl rfl) | exact Or.inr (Or.inr rfl)) (hd:(x == ("__debug__":Str))=false:=by decide)
  (hcd:(x == ("__classdict__":Str))=false:=by decide):PE X (.Name x pos) (tVar i):=pe_var hN hv hd hcd
end
theorem iteF {A B:Prop} (h:B):if false=true then A else B:=by
 rw[if_neg Bool.false_ne_true]
 exact h
theorem iteT {A B:Prop} (h:A):if true=true then A else B:=by
 rw[if_pos rfl]
 exact h
structure Pass (fs:List Addr) (n:Nat) (H:Hp) (h h':Heap):Prop where
 keep:∀ b o,h.get? b=some o→b∉fs→(b < n∨H b≠none∨∀ vs,o.data≠.fields vs)→h'.get? b=some o
 slot:∀ b o,h.get? b=some o→b∈fs→∃ sl,h'.get? b=some { o with slots:=sl }
 there:∀ b o,h.get? b=some o→∃ o',h'.get? b=some o'
theorem Pass.refl {fs:List Addr}{n:Nat}{H:Hp}{h:Heap}:Pass fs n H h h:=⟨fun _ _ e _ _=>e,fun _ o e _=>⟨o.slots,e⟩,fun _ o e=>⟨o,e⟩⟩
theorem Pass.trans {fs:List Addr}{n:Nat}{H:Hp}{h h1 h2:Heap} (x:Pass fs n H h h1) (y:Pass fs n H h1 h2):Pass fs n H h h2 :=
 ⟨fun b o e f g=>y.keep b o (x.keep b o e f g) f g,fun b o e f=>by
  obtain⟨sl,e1⟩:=x.slot b o e f
  obtain⟨sl2,e2⟩:=y.slot b _ e1 f
  exact⟨sl2,e2⟩,fun b o e=>by
  obtain⟨o1,e1⟩:=x.there b o e
  exact y.there b o1 e1⟩
def Head (n:Nat) (H:Hp) (h:Heap) (a:Addr) (vs:Array Value) (fl:Value):Prop :=
 (vs[1]?=some .none∧fl=.none)∨∃ T oT ts,vs[1]?=some (.ref T)∧n≤T∧H T=none∧T≠a∧h.get? T=some oT∧oT.data=.fields ts∧ts[3]?=some fl
structure Err (n:Nat) (H:Hp) (h:Heap) (a:Addr) (C:Value) (dx:Option Addr) (fl:Value):Prop where
 new:n≤a
 un:H a=none
 obj:∃ oe vs,h.get? a=some oe∧oe.cls=C∧oe.dict=dx∧oe.data=.fields vs∧1 < vs.size∧Head n H h a vs fl
theorem jdm (f:Array Value→Array Value) (o:Obj):(o.mapFields f).cls=o.cls:=by
 obtain⟨c,d,dt,sl⟩:=o
 cases dt <;> rfl
theorem jan (f:Array Value→Array Value) (o:Obj):(o.mapFields f).dict=o.dict:=by
 obtain⟨c,d,dt,sl⟩:=o
 cases dt <;> rfl
theorem j0m {o:Obj}{vs:Array Value} (f:Array Value→Array Value) (e:o.data=.fields vs):(o.mapFields f).data=.fields (f vs):=by
 obtain⟨c,d,dt,sl⟩:=o
 cases e
 rfl
theorem j8i (T:Addr):(Value.ref T != Value.none)=true:=by simp
theorem ref_no (T:Addr):¬ ((Value.ref T == Value.none)=true):=by simp
theorem raw_no (L:Addr):¬ ((Value.none == rawInt L)=true):=by simp[rawInt]
section
variable {M:Model}{A:Around}{E:Value→Shared→Prop}{s:Shared}{env:Env}{outer:List Env}{base:Heap}{n:Nat}{H:Hp}{a L:Addr}{C:Value}{dx:Option Addr}{fl:Value}
theorem j8j (hl:s.heap.FunFrames base (env :: outer)) {b:Addr}{o:Obj}{vs:Array Value} (e:s.heap.get? b=some o) (hd:o.data=.fields vs):b∉frs (env :: outer):=fun hm=>by
 obtain⟨_,o2,e2,nf⟩:=hl.mem hm
 rw[e] at e2
 cases e2
 exact nf vs hd
theorem j4j {Q:Unit→Shared→Prop}{fs:List Addr} (x:Err n H s.heap a C dx fl) (m:Option Addr) (nh:∃ oe vs T,s.heap.get? a=some oe∧oe.data=.fields vs∧vs[1]?=some (.ref T))
  (nf:∀ b o vs,s.heap.get? b=some o→o.data=.fields vs→b∉fs)
  (h:∀ h',Pass fs n H s.heap h'→Err n H h' a C dx (m.elim .none fun f=>rawInt f)→Q () { s with heap:=h' }):wpAny M A (setFlight (.ref a) m) Q E s:=by
 obtain⟨new,un,oe,vs,ea,ec,ed,edat,sz,hd⟩:=x
 obtain⟨oe2,vs2,T2,ea2,ed2,e12⟩:=nh
 rw[ea] at ea2;cases ea2
 rw[edat] at ed2;cases ed2
 rcases hd with⟨e0,_⟩ | ⟨T,oT,ts,e1,nT,uT,neT,eT,dT,e3⟩
 ·rw[e0] at e12;cases e12
 unfold setFlight
 refine wpAny_bind (wpAny_field ea edat e1 ?_)
 rw[if_pos (j8i T)]
 have h3:3 < ts.size:=(Array.getElem?_eq_some_iff.mp e3).1
 refine wpAny_setField eT dT h3 (h _ ⟨fun b o e _ hb=>?_,fun b o e hb=>?_,fun b o e=>?_⟩ ⟨new,un,oe,vs,?_,ec,ed,edat,sz,.inr ⟨T,_,_,e1,nT,uT,neT,Heap.get?_update_self _ eT (Obj.isFreed_of_fields (j0m _ dT)),j0m _ dT,?_⟩⟩)
 ·rw[Heap.get?_update_other _ _ fun q=>?_]
  ·exact e
  ·subst q
   rw[e] at eT
   cases eT
   rcases hb with hb | hb | hb
   ·exact absurd nT (Nat.not_le.mpr hb)
   ·exact hb uT
   ·exact hb ts dT
 ·have q:T≠b:=fun q=>by subst q;exact nf T oT ts eT dT hb
  rw[Heap.get?_update_other _ _ q]
  exact⟨o.slots,e⟩
 ·by_cases q:T=b
  ·subst q;exact⟨_,Heap.get?_update_self _ eT (Obj.isFreed_of_fields (j0m _ dT))⟩
  ·exact⟨o,by rw[Heap.get?_update_other _ _ q];exact e⟩
 ·rw[Heap.get?_update_other _ _ neT];exact ea
 ·simp[h3]
theorem j6k {Q:Unit→Shared→Prop}{hd:Value}{had:Bool} (hfr:A.frames=some (env :: outer)) (hl:s.heap.FunFrames base (env :: outer)) (hf:env.frame=some L)
  (nw:n≤a) (un:H a=none) {oe:Obj}{vs:Array Value} (ea:s.heap.get? a=some oe) (edat:oe.data=.fields vs) (sz:1 < vs.size) (fresh:∀ b,s.heap.objs.size≤b→H b=none)
  (h:∀ h',Pass (frs (env :: outer)) n H s.heap h'→Err n H h' a oe.cls oe.dict (rawInt L)→(∃ o2 us T,h'.get? a=some o2∧o2.data=.fields us∧us[1]?=some (.ref T))→Q () { s with heap:=h' }) :
  wpAny M A (do setField (.ref a) 1 (← EntryCells.newEntry hd (← frameOf env) .none (rawInt L) .none (← entryPlaceOf L had))) Q E s:=by
 have na:=j8j hl ea edat
 refine wpAny_bind (wpAny_frameOf_fun hfr hl hf fun h1 so=>?_)
 refine wpAny_bind (wpAny_entryPlaceOf fun where_ isP=>?_)
 unfold EntryCells.newEntry
 unfold newFields
 refine wpAny_bind (wpAny_newObj_type ?_ (isP.sizeOk5 _ _ _ _ _))
 have ea1:h1.get? a=some oe:=(so.2.1 a na).trans ea
 have lt1:a < h1.objs.size:=Heap.lt_size ea1
 refine wpAny_setField (Heap.get?_push_of_some (h:=h1) _ ea1) edat sz (h _ ⟨fun b o e nb hb=>?_,fun b o e hb=>?_,fun b o e=>?_⟩
  ⟨nw,un,_,_,Heap.get?_update_self _ (Heap.get?_push_of_some (h:=h1) _ ea1) (Obj.isFreed_of_fields (j0m _ edat)),jdm _ _,jan _ _,j0m _ edat,by simpa using sz,
   .inr ⟨h1.objs.size,?oT,?ts,by simp[sz],Nat.le_trans nw (Nat.le_of_lt lt1),fresh _ (Nat.le_of_eq so.1.symm),Nat.ne_of_gt lt1,?eT,?dT,?e3⟩⟩ ⟨_,_,h1.objs.size,Heap.get?_update_self _ (Heap.get?_push_of_some (h:=h1) _ ea1) (Obj.isFreed_of_fields (j0m _ edat)),j0m _ edat,by simp[sz]⟩)
 ·have q:a≠b:=fun q=>by
   subst q
   rw[e] at ea
   cases ea
   rcases hb with hb | hb | hb
   ·exact absurd nw (Nat.not_le.mpr hb)
   ·exact hb un
   ·exact hb vs edat
  rw[Heap.get?_update_other _ _ q]
  exact Heap.get?_push_of_some _ ((so.2.1 b nb).trans e)
 ·have q:a≠b:=fun q=>by subst q;exact na hb
  obtain⟨sl,e2⟩:=so.2.2 b o e
  rw[Heap.get?_update_other _ _ q]
  exact⟨sl,Heap.get?_push_of_some _ e2⟩
 ·obtain⟨sl,e2⟩:=so.2.2 b o e
  by_cases q:a=b
  ·subst q;exact⟨_,Heap.get?_update_self _ (Heap.get?_push_of_some (h:=h1) _ ea1) (Obj.isFreed_of_fields (j0m _ edat))⟩
  ·exact⟨_,by rw[Heap.get?_update_other _ _ q];exact Heap.get?_push_of_some _ e2⟩
 case eT =>
  rw[Heap.get?_update_other _ _ (Nat.ne_of_lt lt1)]
  refine Heap.get?_push_size h1 ?_
  rfl
 case dT=>rfl
 case e3=>first | (simp;done) | (rcases isP with rfl | ⟨_,_,_,_,_,_,_,rfl⟩ <;> simp)
theorem j5k {Q:Unit→Shared→Prop} (hfr:A.frames=some (env :: outer)) (hl:s.heap.FunFrames base (env :: outer)) (hf:env.frame=some L)
  (x:Err n H s.heap a C dx fl) (hm:fl=.none∨fl=rawInt L) (fresh:∀ b,s.heap.objs.size≤b→H b=none)
  (h:∀ h',Pass (frs (env :: outer)) n H s.heap h'→Err n H h' a C dx (rawInt L)→(∃ o2 us T,h'.get? a=some o2∧o2.data=.fields us∧us[1]?=some (.ref T))→Q () { s with heap:=h' }) :
  wpAny M A (noteFrame (.ref a) env) Q E s:=by
 obtain⟨new,un,oe,vs,ea,ec,ed,edat,sz,hd⟩:=id x
 unfold noteFrame
 simp only[hf]
 rcases hd with⟨e1,_⟩ | ⟨T,oT,ts,e1,nT,uT,neT,eT,dT,e3⟩
 ·refine wpAny_bind (wpAny_field ea edat e1 ?_)
  rw[if_neg (by decide)]
  refine j6k hfr hl hf new un ea edat sz fresh fun h' ps er nh=>h h' ps ?_ nh
  rw[← ec,← ed];exact er
 ·refine wpAny_bind (wpAny_field ea edat e1 ?_)
  rw[if_pos (j8i T)]
  refine wpAny_bind (wpAny_field eT dT e3 ?_)
  rcases hm with hm | hm
  ·subst hm
   rw[if_neg (raw_no L)]
   have h3:3 < ts.size:=(Array.getElem?_eq_some_iff.mp e3).1
   refine wpAny_bind (wpAny_setField eT dT h3 ?_)
   have oth:∀ b,b≠T→(s.heap.update T (Obj.mapFields (·.setIfInBounds 3 Value.none))).get? b=s.heap.get? b:=fun b hb=>Heap.get?_update_other _ _ (Ne.symm hb)
   have nT':=j8j hl eT dT
   refine j6k (s:={ s with heap:=s.heap.update T (Obj.mapFields (·.setIfInBounds 3 Value.none)) }) hfr (hl.of_keeps fun b o e nf=>⟨o,?_,rfl⟩) hf new un ((oth a (Ne.symm neT)).trans ea) edat sz (fun b hb=>fresh b ?_) fun h' ps er nh=>h h' ?_ ?_ nh
   ·refine (oth b fun q=>?_).trans e
    subst q
    rw[e] at eT
    cases eT
    exact nf ts dT
   ·have:(s.heap.update T (Obj.mapFields (·.setIfInBounds 3 Value.none))).objs.size=s.heap.objs.size:=by simp
    exact this ▸ hb
   ·refine Pass.trans ⟨fun b o e _ hb=>?_,fun b o e hb=>?_,fun b o e=>?_⟩ ps
    ·refine (oth b fun q=>?_).trans e
     subst q
     rw[e] at eT
     cases eT
     rcases hb with hb | hb | hb
     ·exact absurd nT (Nat.not_le.mpr hb)
     ·exact hb uT
     ·exact hb ts dT
    ·exact⟨o.slots,(oth b fun q=>nT' (q ▸ hb)).trans e⟩
    ·by_cases q:b=T
     ·subst q;exact⟨_,Heap.get?_update_self _ eT (Obj.isFreed_of_fields (j0m _ dT))⟩
     ·exact⟨o,(oth b q).trans e⟩
   ·rw[← ec,← ed];exact er
  ·subst hm
   rw[if_pos (by simp)]
   exact wpAny_pure (h s.heap .refl x ⟨oe,vs,T,ea,edat,e1⟩)
theorem jao {Q:Unit→Shared→Prop} (hfr:A.frames=some (env :: outer)) (hl:s.heap.FunFrames base (env :: outer)) (hf:env.frame=some L)
  (x:Err n H s.heap a C dx fl) (hm:fl=.none∨fl=rawInt L) (fresh:∀ b,s.heap.objs.size≤b→H b=none)
  (h:∀ h',Pass (frs (env :: outer)) n H s.heap h'→Err n H h' a C dx .none→Q () { s with heap:=h' }) :
  wpAny M A (leaving env (.ref a)) Q E s:=by
 unfold leaving
 refine wpAny_bind (j5k hfr hl hf x hm fresh fun h1 p1 x1 nh=>?_)
 refine j4j (s:={ s with heap:=h1 }) (fs:=frs (env :: outer)) x1 none nh (fun b o vs e d hb=>?_) fun h2 p2 x2=>h h2 (p1.trans p2) x2
 obtain⟨_,o0,e0,nf⟩:=hl.mem hb
 obtain⟨sl,e1⟩:=p1.slot b o0 e0 hb
 have e:h1.get? b=some o:=e
 rw[e1] at e
 cases e
 exact nf vs d
end
section
variable {X:Cx}{pins:List (Addr × Obj)}{σ:St}{H:Hp}{s:Shared}{h':Heap}
open Classical in
theorem Inv.passed (I:Inv X [] σ H s) (hp:X.pn=[]) (u:Pass (frs X.stack) X.s₀.heap.objs.size H s.heap h'):Inv X [] σ H { s with heap:=h' }:=by
 let ch:=(List.range s.heap.objs.size).filter fun b=>decide (X.s₀.heap.objs.size≤b∧H b=none∧∃ o vs,s.heap.get? b=some o∧o.data=.fields vs)
 have inc:∀ b o,s.heap.get? b=some o→b∉ch→b < X.s₀.heap.objs.size∨H b≠none∨∀ vs,o.data≠.fields vs:=fun b o e hb=>by
  by_cases h1:b < X.s₀.heap.objs.size
  ·exact .inl h1
  by_cases h2:H b≠none
  ·exact .inr (.inl h2)
  refine .inr (.inr fun vs q=>hb ?_)
  refine List.mem_filter.mpr ⟨List.mem_range.mpr (Heap.lt_size e),decide_eq_true ⟨Nat.le_of_not_lt h1,Classical.not_not.mp h2,o,vs,e,q⟩⟩
 have of:∀ b,b∈ch→X.s₀.heap.objs.size≤b∧H b=none∧∃ o vs,s.heap.get? b=some o∧o.data=.fields vs:=fun b hb=>of_decide_eq_true (List.mem_filter.mp hb).2
 refine I.call (ch:=ch) (g':=s.gens) (d':=s.drawn) (t':=s.toks) ⟨fun b o e n hb hx=>u.keep b o e hb (inc b o e hx),fun b o e n hb hx=>u.slot b o e hb,fun _ _ _ n _=>n,fun b o e _=>u.there b o e,fun _ _ q=>q,fun _ _ _ q=>q,fun _ ps q=>⟨#[],by rw[q];simp⟩⟩ ?_ I.bare fun b hb=>?_
 ·intro b o e
  refine (I.hok b o e).stay (fun c w hc q=>?_) (fun _ q=>q) fun _ _ q=>q
  have tr:H c≠none:=by
   rcases hc with rfl | hc
   ·rw[e];simp
   ·rw[hc];simp
  exact u.keep c w q (fun z=>tr (I.stkFree c z)) (.inr (.inl tr))
 ·obtain⟨h1,_,o,vs,e,d⟩:=of b hb
  refine⟨.inr h1,fun q=>?_,fun x c hc q=>?_,fun p hp'=>?_⟩
  ·subst q
   obtain⟨m,⟨o2,es,ep,e2,d2,_⟩,_⟩:=I.loc
   rw[e] at e2;cases e2
   rw[d] at d2;cases d2
  ·subst q
   obtain⟨v,hv⟩:=I.cell x c hc
   obtain⟨o2,e2,d2⟩:=hv
   rw[e] at e2;cases e2
   rw[d] at d2;cases d2
  ·rw[hp] at hp';cases hp'
end
theorem Head.mono {n m:Nat}{H:Hp}{h:Heap}{a:Addr}{vs:Array Value}{fl:Value} (x:Head n H h a vs fl) (hm:m≤n):Head m H h a vs fl:=by
 rcases x with x | ⟨T,oT,ts,e1,nT,r⟩
 ·exact .inl x
 ·exact .inr ⟨T,oT,ts,e1,Nat.le_trans hm nT,r⟩
theorem Err.mono {n m:Nat}{H:Hp}{h:Heap}{a:Addr}{C:Value}{dx:Option Addr}{fl:Value} (x:Err n H h a C dx fl) (hm:m≤n):Err m H h a C dx fl:=by
 obtain⟨nw,un,oe,vs,ea,ec,ed,edat,sz,hd⟩:=x
 exact⟨Nat.le_trans hm nw,un,oe,vs,ea,ec,ed,edat,sz,hd.mono hm⟩
def XS (X:Cx) (E:XK) (e:Value) (s:Shared):Prop :=
 ∃ σ H a C dx fl,e=.ref a∧Inv X [] σ H s∧Err X.s₀.heap.objs.size H s.heap a C dx fl∧(fl=.none∨fl=rawInt X.env.locals)∧E C dx H
def CXE (P:Program) (w:World):CXT:=fun outer H s E e s' =>
 ∃ a C dx H',e=.ref a∧s'.os=s.os∧AllBare s'.gens∧Un (frs outer) [] H H' s.heap s'.heap∧HOk P w H' s'.heap∧Err s.heap.objs.size H' s'.heap a C dx .none∧E C dx H'
theorem passE0 {X:Cx}{P:Program}{w:World}:j36 (CXE P w) X E0:=fun _ _ _ _ _ _ _ h=>by
 obtain⟨_,_,_,_,_,_,_,_,_,_,q⟩:=h
 exact q.elim
section
variable {X:Cx}{E:XK}
structure Own (X:Cx):Prop where
 stk:X.stack=X.env :: X.outer
 frm:X.env.frame=some X.env.locals
 pn:X.pn=[]
theorem jjf (O:Own X):PassesOwn (model X.prog X.w) X.A X.env (XS X E):=fun e s' h=>by
 obtain⟨σ,H,a,C,dx,fl,rfl,I,er,hm,q⟩:=h
 have fr:X.A.frames=some (X.env :: X.outer):=by rw[← O.stk];exact I.ok.frames
 have hl:s'.heap.FunFrames X.base (X.env :: X.outer):=by rw[← O.stk];exact I.stack
 refine j5k fr hl O.frm er hm (fun b hb=>I.hok.fresh hb) fun h1 p1 er1 nh=>?_
 rw[← O.stk] at p1
 have I1:=I.passed O.pn p1
 obtain⟨o2,us,T,e2,d2,e12⟩:=nh
 refine wpAny_bind (wpAny_field (s:={ s' with heap:=h1 }) e2 d2 e12 ?_)
 rw[if_neg (ref_no T)]
 rw[O.frm]
 refine j4j (s:={ s' with heap:=h1 }) (fs:=frs X.stack) er1 (some X.env.locals) ⟨o2,us,T,e2,d2,e12⟩ (fun b o vs e d hb=>?_) fun h2 p2 er2=>?_
 ·obtain⟨_,o0,e0,nf⟩:=I1.stack.mem hb
  have e:h1.get? b=some o:=e
  have e0:h1.get? b=some o0:=e0
  rw[e] at e0;cases e0
  exact nf vs d
 ·exact⟨σ,H,a,C,dx,_,rfl,I1.passed O.pn p2,er2,.inr rfl,q⟩
theorem callX {pins:List (Addr × Obj)}{σ:St}{H:Hp}{s s':Shared}{e:Value} (O:Own X) (I:Inv X pins σ H s) (h:CXE X.prog X.w X.stack H s E e s'):XS X E e s':=by
 obtain⟨a,C,dx,H',rfl,ho,hg,u,hok,er,q⟩:=h
 have J:=I.call' (ch:=[]) ho u hok hg fun b z=>absurd z (by simp)
 refine⟨σ,H',a,C,dx,.none,rfl,⟨J.ok,J.os,J.bare,J.base,J.loc,J.cell,J.free,J.freeC,fun p hp=>J.pin p ?_,J.hok,J.len⟩,er.mono I.sz,.inl rfl,q⟩
 exact List.mem_append_left _ (by simpa using hp)
end
section
variable {X:Cx}{E:XK}
theorem PSs.wished {st:List Stmt}{t:TS}{E1:Value→Shared→Prop} (h:PSs (X.wish E1) st t) (he:∀ e s,E1 e s→X.xe e s):PSs X st t:=fun pins s σ H D I hw =>
 wpAny_mono (h pins s σ H D (I.wish _) hw) (fun _ _ q=>q.unwish) he
theorem ja8 {CX:CXT}{P:Program}{w:World}{K:PySem.W.Frag}{mg:Str→Option Value}{base:Heap}{N:List Str}{qual:Str}{scope:Scope}{f:Addr}{cd:Value}{A:Around}{outer:List Env}{s:Shared}{H:Hp}:Own (cxOf CX P w K mg base N qual scope f cd A outer s H E):=⟨rfl,rfl,rfl⟩
theorem leftX {P:Program}{w:World}{K:PySem.W.Frag}{mg:Str→Option Value}{base:Heap}{N:List Str}{qual:Str}{scope:Scope}{f:Addr}{cd:Value}{A:Around}{outer:List Env}{s:Shared}{H:Hp} (e:Value) (s':Shared)
  (h:XS (cxOf (CXE P w) P w K mg base N qual scope f cd A outer s H E) E e s'):(cxOf (CXE P w) P w K mg base N qual scope f cd A outer s H E).xe e s':=by
 obtain⟨σ,H1,a,C,dx,fl,rfl,I,er,hm,q⟩:=h
 refine jao (outer:=outer) I.ok.frames I.stack rfl er hm (fun b hb=>I.hok.fresh hb) fun h' ps er'=>?_
 have I1:=I.passed rfl ps
 exact⟨a,C,dx,H1,rfl,I1.os,I1.bare,I1.base,I1.hok,er',q⟩
end
abbrev errObj (C:Addr) (t:Addr):Obj:={ cls:=.ref C,data:=.fields #[.ref t,.none,.none,.none,.bool false,.none] }
abbrev argObj (us:List Value):Obj:={ cls:=.type "tuple",data:=.seq us.toArray }
section
variable {R:Result→Shared→Prop}{prog:Program}{w:World}{A:Around}{h:Heap}{os:OsState}{g:Array GenState}{d:Drawn}{t:Nat}
variable {nm q:Str}{C N f:Addr}{bs bm bmB:List Value}{hdct:Bool}{sn:List Str}{sub:List Value}{ab:Bool}{col:Option Bool}{dd:Option Addr}{k0 k1 k2 k3 k5:Option Value}{B newId initId:String}{us:List Value}
theorem jap (F:ExcBaseFacts B newId initId bmB) (c0:bm.contains (.type B)=true) {M:Model}{E:Value→Shared→Prop}{Q:Unit→Shared→Prop} (hC:h.get? C=some (excClassObj nm q C N bs bm hdct sn sub ab col dd k0 k1 k2 k3 k5 newId))
  (hq:Q () ⟨h,g,d,t,os⟩):wpAny M A (checkBuiltinCall newId ⟨.ref C :: us,[]⟩) Q E ⟨h,g,d,t,os⟩:=by
 have cB:(Value.ref C :: bm).contains (.type B)=true:=by rw[List.contains_cons,c0,Bool.or_true]
 have st:=F.noStar
 simp only[checkBuiltinCall,F.newRow,F.newSplit,F.newKind]
 repeat (first | refine wpAny_loadPart_at hC ?_ | (refine wpAny_isSubtype_exc hC ?_;rw[cB]) | refine wpAny_staticBase_exc hC ?_ | refine wpAny_madeBy_exc hC ?_ | simp only[bne_self_eq_false,Bool.false_eq_true,if_false] | wp_step)
 exact hq
theorem jga (F:ExcBaseFacts B newId initId bmB) (c0:bm.contains (.type B)=true) (cA:bm.contains (.type "AttributeError")=false) (cN:bm.contains (.type "NameError")=false)
  (hC:h.get? C=some (excClassObj nm q C N bs bm hdct sn sub ab col dd k0 k1 k2 k3 k5 newId))
  (hq:R (.ok (.ret (.ref (h.objs.size+1)))) ⟨(h.push (argObj us)).push (errObj C h.objs.size),g,d,t,os⟩) (hl:us.length≤sizeLine) :
  codeAny (model prog w) A (.builtin newId ⟨.ref C :: us,[]⟩) R ⟨h,g,d,t,os⟩:=by
 have en:=F.ends
 have xB:(Value.ref C :: bm).contains (.type B)=true:=by rw[List.contains_cons,c0,Bool.or_true]
 have xA:(Value.ref C :: bm).contains (.type "AttributeError")=false:=by rw[List.contains_cons,cA];rfl
 have xN:(Value.ref C :: bm).contains (.type "NameError")=false:=by rw[List.contains_cons,cN];rfl
 have hrest:=hl
 refine (codeAny_builtinAt F.entry ?_)
 unfold PySem.Builtin.«BaseException.__new__»
 refine PySem.wpAt_bind ?_
 show PySem.wpAt _ _ _ (stack >>= _) _ _ _
 refine PySem.wpAt_bind (PySem.wpAt_stack fun p below=>PySem.wpAt_of_wpAny ?_)
 wp_walk
 refine PySem.wpAt_of_wpAny ?_
 rw[F.owner]
 repeat (first | with_reducible refine wpAny_madeHere_exc F.canon hC ?_ | with_reducible refine wpAny_loadPart_at hC ?_ | (with_reducible refine wpAny_isSubtype_exc hC ?_;first | rw[xB] | rw[xA] | rw[xN]) | wp_step)
 show R _ _
 rw[Heap.size_push]
 exact hq
theorem jdn (F:ExcBaseFacts B newId initId bmB) (c0:bm.contains (.type B)=true) (cA:bm.contains (.type "AttributeError")=false) (cN:bm.contains (.type "NameError")=false)
  (hC:h.get? C=some (excClassObj nm q C N bs bm hdct sn sub ab col dd k0 k1 k2 k3 k5 newId)) (hi:PySem.W.Looks (model prog w) h (typeLookup (.ref C) "__init__") (some (.ref f)))
  (hb:∀ self,PySem.W.Looks (model prog w) h (bindSpecial (.ref f) self) (.ref f,[self])) (hl:us.length≤sizeLine)
  (hq:codeAny (model prog w) (A.under (.builtin "type.__call__" ⟨.ref C :: us,[]⟩)) (.call (.ref f) ⟨.ref (h.objs.size+1) :: us,[]⟩) (PySem.W.InitBack (h.objs.size+1) R)
   ⟨(h.push (argObj us)).push (errObj C h.objs.size),g,d,t,os⟩):codeAny (model prog w) A (.call (.ref C) ⟨us,[]⟩) R ⟨h,g,d,t,os⟩:=by
 have ty:(⟨h,g,d,t,os⟩:Shared).TypeIs (.ref C) "type":=⟨_,hC,rfl⟩
 have fa:=tc_lookup
 have fb:=tc_bind (.ref C)
 refine codeAny_of_tree ?_
 show wpAny _ _ (callAny (.ref C) ⟨us,[]⟩) _ _ _
 repeat (any_goals (first | with_reducible refine wpAny_loadPart_at hC ?_ | assumption | wp_step))
 refine⟨rfl,?_⟩
 refine (codeAny_call_builtin_at (Code.quiet_builtin _ (by decide +kernel)) entry_typeCall (wpAny_check_type_call_sub hC ?_))
 repeat (first | with_reducible refine wpAny_madeBy_exc hC ?_ | with_reducible refine wpAny_loadPart_at hC ?_ | wp_step)
 refine codeAny_call_builtin_code (Code.quiet_builtin _ F.quiet) (jap F c0 hC ?_)
 refine jga F c0 cA cN hC ?_ hl
 show wpAny _ _ _ _ _ _
 have k:∀ b o,h.get? b=some o→((h.push (argObj us)).push (errObj C h.objs.size)).get? b=some o:=fun b o e=>Heap.get?_push_of_some _ (Heap.get?_push_of_some _ e)
 have hx:((h.push (argObj us)).push (errObj C h.objs.size)).get? (h.objs.size+1)=some (errObj C h.objs.size):=by heap_get
 have cC:(Value.ref C :: bm).contains (.ref C)=true:=by simp
 unfold isInstance
 repeat (first | with_reducible refine wpAny_loadPart_at hx ?_ | wp_step)
 show wpAny _ _ (isSubtype (.ref C) (.ref C)) _ _ _
 refine wpAny_isSubtype_exc (k _ _ hC) ?_
 rw[cC]
 repeat (first | with_reducible refine wpAny_loadPart_at hx ?_ | wp_step)
 show wpAny _ _ (typeLookup (.ref C) "__init__") _ _ _
 refine hi _ _ _ _ k ?_
 dsimp only
 refine wpAny_holding (wpAny_bind (hb _ _ _ _ _ k ?_))
 refine wpAny_bind (wpAny_call (codeAny_mono hq fun r s' z=>?_))
 rcases r with er | (_ | _ | _ | _) <;> first | exact z | exact z.elim | skip
 obtain⟨rfl,z⟩:=z
 first | exact wpAny_pure (wpAny_pure z) | (wp_walk;exact z)
end
open PySem.Builtin PySem.Builtin.ObjectAttr
section
variable {E:Value→Shared→Prop}{prog:Program}{w:World}{A:Around}{h:Heap}{os:OsState}{g:Array GenState}{d:Drawn}{t:Nat}
variable {nm q:Str}{C N x:Addr}{bs bm:List Value}{sn:List Str}{sub:List Value}{ab:Bool}{col:Option Bool}{dd:Option Addr}{k0 k1 k2 k3 k5:Option Value}{newId:String}{o:Obj}{name:Str}{v:Value}
theorem jaq {tk:Tok}{Q:Fin→Shared→Prop} (hp:refuseLoop (.ref x) "__setattr__" bm=pure ())
  (hC:h.get? C=some (excClassObj nm q C N bs bm true sn sub ab col dd k0 k1 k2 k3 k5 newId)) (ln:PySem.W.Looks (model prog w) h (typeLookup (.ref C) name) none)
  (hx:h.get? x=some o) (hc:o.cls=.ref C) (hnc:∀ c,o.data≠.cls c) (hdn:o.dict=none)
  (hq:∀ h' tk',h'.get? x=some { o with dict:=some h.objs.size }→h'.Ns1 h.objs.size (fun y=>if y=name then some v else none)→(∀ b ob,b≠x→h.get? b=some ob→h'.get? b=some ob)→Q (.done (.ret .none)) ⟨h',g,d,tk',os⟩):wpAny (model prog w) A (PySem.Builtin.«object.__setattr__» ⟨[.ref x,.str name tk,v],[]⟩) Q E ⟨h,g,d,t,os⟩:=by
 unfold PySem.Builtin.«object.__setattr__»
 repeat (first | rw[refuse_eq] | (rw[refuseLoop_ref,hp]) | (with_reducible refine wpAny_loadPart_at hx ?_;rw[hc]) | with_reducible refine wpAny_mroOf_exc hC ?_  | wp_step)
 show wpAny _ _ (typeLookup (.ref C) name) _ _ _
 refine ln _ _ _ _ (fun _ _ e=>e) ?_
 repeat (first | with_reducible refine wpAny_loadPart_at hC ?_ | (with_reducible refine wpAny_loadPart_at hx ?_;rw[hc]) | wp_step)
 rw[hdn]
 rw[if_neg (by simp[typeHasDict])]
 split
 ·rename_i hcd
  cases hcd
 split
 ·rename_i c hcd
  exact absurd hcd (hnc c)
 have hx1:(h.push { cls:=.type "dict",data:=.dict #[] }).get? x=some o:=Heap.get?_push_of_some _ hx
 have lt:x < h.objs.size:=Heap.lt_size hx
 refine wpAny_bind (wpAny_alloc' (wpAny_bind (wpAny_update' hx1 (wpAny_pure ?_))))
 have gd:((h.push { cls:=.type "dict",data:=.dict #[] }).update x fun o=>{ cls:=o.cls,dict:=some h.objs.size,data:=o.data,slots:=o.slots }).get? h.objs.size=some { cls:=.type "dict",data:=.dict #[] } :=
  (Heap.get?_update_ne _ _ _ _ (Nat.ne_of_gt lt)).trans (Heap.get?_push_at rfl rfl)
 show wpAny (model prog w) A (storeInDict h.objs.size (.str name tk) name v) _ _ _
 unfold storeInDict
 unfold newKeyGuard
 refine wpAny_bind (wpAny_pure (wpAny_bind (wpAny_nsSet1 (Heap.Ns1.of_empty ⟨_,#[],_,gd,rfl,fun e he=>absurd he (by simp),fun _=>rfl⟩) fun h' hn' hs=>?_)))
 obtain⟨o1,es1,_,eo,ed,few⟩:=hn'.count (Within.cons name v Within.nil)
 have fits:es1.size≤sizeLine:=Nat.le_trans few (by rw[sizeLine_eq];simp)
 refine wpAny_bind (wpAny_lookBehind eo (by rw[ed];exact pastItsLine_dict (Nat.le_succ_of_le fits)) ?_)
 wp_walk
 refine hq h' _ ?_ ?_ fun b ob hb e=>?_
 ·refine (hs.2 x (Nat.ne_of_lt lt)).trans (Heap.get?_update_self _ hx1 ?_)
  have live:=(Heap.get?_some_iff.mp hx).2
  obtain⟨o1,o2,dt,o4⟩:=o
  cases dt <;> first | rfl | exact live
 ·obtain⟨_,_,_,a1,a2,a3,a4,a5⟩:=hn'
  exact⟨_,_,_,a1,a2,a3,a4,fun y=>by rw[a5 y]⟩
 ·exact (hs.2 b (Nat.ne_of_lt (Heap.lt_size e))).trans ((Heap.get?_update_ne _ _ _ _ hb).trans (Heap.get?_push_of_some _ e))
theorem jar {Q:Unit→Shared→Prop} (hp:refuseLoop (.ref x) "__setattr__" bm=pure ()) (ho:bm.contains (.type "object")=true)
  (hC:h.get? C=some (excClassObj nm q C N bs bm true sn sub ab col dd k0 k1 k2 k3 k5 newId)) (ls:PySem.W.Looks (model prog w) h (typeLookup (.ref C) "__setattr__") (some (.builtin "object.__setattr__"))) (ln:PySem.W.Looks (model prog w) h (typeLookup (.ref C) name) none)
  (hx:h.get? x=some o) (hc:o.cls=.ref C) (hnc:∀ c,o.data≠.cls c) (hdn:o.dict=none)
  (hq:∀ h' tk',h'.get? x=some { o with dict:=some h.objs.size }→h'.Ns1 h.objs.size (fun y=>if y=name then some v else none)→(∀ b ob,b≠x→h.get? b=some ob→h'.get? b=some ob)→Q () ⟨h',g,d,tk',os⟩):wpAny (model prog w) A (setAttr (.ref x) name v) Q E ⟨h,g,d,t,os⟩:=by
 have so:=PySem.F.store_object
 have fb:=so.slot.bind (.ref x)
 have sub:PySem.W.Looks (model prog w) h (isInstance (.ref x) (.type "object")) true:=fun A Q E s k z=>by
  obtain⟨h2,g2,d2,t2,os2⟩:=s
  unfold isInstance
  have cB:(Value.ref C :: bm).contains (.type "object")=true:=by rw[List.contains_cons,ho,Bool.or_true]
  repeat (first | (with_reducible refine wpAny_loadPart_at (k _ _ hx) ?_;rw[hc]) | (with_reducible refine wpAny_isSubtype_exc (k _ _ hC) ?_;rw[cB]) | wp_step)
  exact z
 unfold setAttr
 unfold callSpecial?
 unfold specialOf
 repeat (any_goals (first | assumption | (with_reducible refine wpAny_loadPart_at hx ?_;rw[hc]) | wp_step))
 show wpAny _ _ (typeLookup (.ref C) "__setattr__") _ _ _
 refine ls _ _ _ _ (fun _ _ e=>e) ?_
 dsimp only
 refine wpAny_holding ?_
 rw[fb]
 refine wpAny_bind (wpAny_pure (wpAny_bind (wpAny_call ?_)))
 refine codeAny_call_builtin so.slot.plain so.entry (@PySem.W.check_slot (model prog w) _ _ _ "object.__setattr__" "object" "__setattr__" (.ref x) [.str name _,v] [] _ so.kind so.split sub (so.args (.ref x) (.str name _) v) ?_)
 refine jaq hp hC ln hx hc hnc hdn fun h' tk' e1 e2 e3=>?_
 exact wpAny_pure (wpAny_pure (hq h' tk' e1 e2 e3))
end
def cut (H:Hp) (a:Addr):Hp:=fun b=>if b=a then none else H b
theorem j5l {H:Hp}{a:Addr}:cut H a a=none:=by unfold cut;rw[if_pos rfl]
theorem j7h {H:Hp}{a b:Addr} (h:b≠a):cut H a b=H b:=by unfold cut;rw[if_neg h]
section
variable {X:Cx}{pins:List (Addr × Obj)}{σ:St}{H:Hp}{s:Shared}{a:Addr}{φ:Heap→Prop}
theorem HOk.cut {P:Program}{w:World}{h:Heap} (x:HOk P w H h) (ea:H a=some (.ext φ)):HOk P w (cut H a) h:=fun b o e=>by
 have hb:b≠a:=fun q=>by subst q;rw[j5l] at e;cases e
 rw[j7h hb] at e
 have keep:∀ c u,H c=some u→u≠.ext φ→L2.cut H a c=some u:=fun c u q ne=>by
  rw[j7h fun z=>ne ?_]
  ·exact q
  ·subst z;rw[ea] at q;cases q;rfl
 exact (x b o e).stay (fun c u _ q=>q) (fun c q=>keep c _ q (by simp)) fun c xs q=>keep c _ q (by simp)
theorem Inv.cut (I:Inv X pins σ H s) (ea:H a=some (.ext φ)):Inv X pins σ (cut H a) s:=by
 have no:∀ b,H b=none→L2.cut H a b=none:=fun b e=>by
  by_cases q:b=a
  ·subst q;exact j5l
  ·rw[j7h q];exact e
 have keep:∀ c u,H c=some u→u≠.ext φ→L2.cut H a c=some u:=fun c u q ne=>by
  rw[j7h fun z=>ne ?_]
  ·exact q
  ·subst z;rw[ea] at q;cases q;rfl
 refine⟨I.ok,I.os,I.bare,⟨I.base.keep,I.base.slot,fun b o e n hx=>no b (I.base.free b o e n hx),I.base.there,fun b xs q=>keep b _ (I.base.tups b xs q) (by simp),fun b o u q=>keep b _ (I.base.frzs b o u q) (by simp),fun b ps q=>?_⟩,
  I.loc,I.cell,no _ I.free,fun x c h=>no _ (I.freeC x c h),fun p hp=>?_,I.hok.cut ea,I.len⟩
 ·obtain⟨m,e⟩:=I.base.tbls b ps q
  exact⟨m,keep b _ e (by simp)⟩
 ·obtain⟨p1,p2,p3,p4,p5⟩:=I.pin p hp
  exact⟨p1,no _ p2,p3,p4,p5⟩
abbrev errH (a:Addr) (C:Value) (dx:Option Addr):HO:=.ext fun h=>∃ o vs,h.get? a=some o∧o.cls=C∧o.dict=dx∧o.data=.fields vs
end
abbrev errN (a C:Addr) (dx:Option Addr):HO:=.ext fun h=>∃ t sl,h.get? a=some ⟨.ref C,dx,.fields #[.ref t,.none,.none,.none,.bool false,.none],sl⟩
structure ErrC (K:PySem.W.Frag) (C:Addr) (bm:List Value):Prop where
 at_:∃ nm q N bs hdct sn sub ab col dd k0 k1 k2 k3 k5 newId,K.lookup C=some (excClassObj nm q C N bs bm hdct sn sub ab col dd k0 k1 k2 k3 k5 newId)
 base:bm.contains (.type "BaseException")=true
def jdo (K:PySem.W.Frag) (n:Nat) (E:XK) (te:TE):TS:=fun _ σ H=>te σ H fun v H'=>∃ a C dx bm,v=.ref a∧H' a=some (errN a C dx)∧n≤a∧ErrC K C bm∧E (.ref C) dx (cut H' a)
theorem jdp {X:Cx}{E:XK}{e:Expr}{te:TE}{pos:Pos} (O:Own X) (hx:∀ ev s,XS X E ev s→X.xe ev s) (hc:X.calm=true) (he:PE X e te):PS X (.Raise (some e) none pos) (jdo X.K X.s₀.heap.objs.size E te):=by
 intro pins s σ H D I h
 rw[arm_exec_Raise]
 simp only[evalOpt,Option.map]
 unfold raiseStmt
 refine wpAny_bind (wpAny_standAt (wpAny_bind (wpAny_bind (wpAny_mono (he pins s σ H _ I h) (fun u s1 z=>?_) fun _ _ z=>z))))
 obtain⟨v,H1,I1,rv,a,C,dx,bm,ev,ea,na,⟨⟨nm,q,N,bs,hdct,sn,sub,ab,col,dd,k0,k1,k2,k3,k5,newId,lk⟩,cb⟩,hE⟩:=z
 subst ev
 obtain rfl:u=Value.ref a:=rv
 have hC:=I1.kIn _ _ lk
 obtain⟨⟨t,sl,ha⟩,_,_⟩:=I1.hok a _ ea
 have cB:(Value.ref C :: bm).contains (.type "BaseException")=true:=by rw[List.contains_cons,cb,Bool.or_true]
 have fin:XS X E (.ref a) s1:=⟨σ,cut H1 a,a,.ref C,dx,.none,rfl,⟨(I1.cut ea).ok,(I1.cut ea).os,(I1.cut ea).bare,(I1.cut ea).base,(I1.cut ea).loc,(I1.cut ea).cell,(I1.cut ea).free,(I1.cut ea).freeC,fun p hp=>(I1.cut ea).pin p (List.mem_append_left _ (by simpa using hp)),(I1.cut ea).hok,(I1.cut ea).len⟩,
  ⟨na,j5l,_,_,ha,rfl,rfl,rfl,by simp,.inl ⟨rfl,rfl⟩⟩,.inl rfl,hE⟩
 obtain⟨hp,g,d,tk,os⟩:=s1
 refine wpAny_bind (wpAny_standAt (wpAny_pure ?_))
 repeat (first | with_reducible refine wpAny_loadPart_at hC ?_ | with_reducible refine wpAny_loadPart_at ha ?_ | (with_reducible refine wpAny_isSubtype_exc hC ?_;rw[cB]) | wp_step)
 exact wpAny_raiseNew_none (I.ok.hd hc) (hx _ _ fin)
structure ErrM (K:PySem.W.Frag) (C f:Addr) (bm bmB:List Value) (B newId initId:String):Prop where
 at_:∃ nm q N bs hdct sn sub ab col dd k0 k1 k2 k3 k5,K.lookup C=some (excClassObj nm q C N bs bm hdct sn sub ab col dd k0 k1 k2 k3 k5 newId)
 facts:ExcBaseFacts B newId initId bmB
 hasB:bm.contains (.type B)=true
 noA:bm.contains (.type "AttributeError")=false
 noN:bm.contains (.type "NameError")=false
 base:bm.contains (.type "BaseException")=true
 init:PySem.W.findIn K (.ref C) "__init__"=some (some (.ref f))
 fn:PySem.W.isFn K (.ref f)=true
 kp:PySem.W.keepIn K (.ref C)=true
section
variable {X:Cx}{CX:CXT}{k:Nat}{f C:Addr}{fd:FuncData}{ps:List Str}{sp:Sp}{dvs:List V}{ds:List Value}{E:XK}{bm bmB:List Value}{B newId initId:String}
theorem Inv.madeErr {pins:List (Addr × Obj)}{σ:St}{H:Hp}{s:Shared}{us:List Value} (I:Inv X pins σ H s) :
  Inv X pins σ (upd H (s.heap.objs.size+1) (errN (s.heap.objs.size+1) C none)) { s with heap:=(s.heap.push (argObj us)).push (errObj C s.heap.objs.size) }:=by
 have kp:∀ b u,s.heap.get? b=some u→((s.heap.push (argObj us)).push (errObj C s.heap.objs.size)).get? b=some u:=fun b u e=>Heap.get?_push_of_some _ (Heap.get?_push_of_some _ e)
 have at1:((s.heap.push (argObj us)).push (errObj C s.heap.objs.size)).get? (s.heap.objs.size+1)=some (errObj C s.heap.objs.size):=by heap_get
 refine I.call (ch:=[]) (g':=s.gens) (d':=s.drawn) (t':=s.toks) (Un.laid kp (Nat.le_succ _) (I.hok.fresh (Nat.le_succ _))) (I.hok.laid kp (Nat.le_succ _) ?_) I.bare fun b z=>absurd z (by simp)
 exact⟨⟨_,_,at1⟩,⟨_,at1⟩,fun h1 h2 ⟨t,sl,e⟩ k=>⟨t,sl,k _ e⟩⟩
theorem jgb {pins:List (Addr × Obj)}{σ:St}{H:Hp}{s:Shared}{Q:VK}{us:List Value}{vs:List V} (M:ErrM X.K C f bm bmB B newId initId) (F:FnOk X.prog X.w X.K X.mg X.base CX k f fd ps sp) (hr:Room (k+1) X.A) (hb:Binds X.K fd ps ds) (hd:Vals dvs ds)
  (hx:j36 CX X E) (I:Inv X pins σ H s) (r:Vals vs us) (hl:vs.length≤1000)
  (h:∀ x,H x=none→X.s₀.heap.objs.size≤x→sp (.ref x :: (vs++dvs)) (upd H x (errN x C none)) (fun v H2=>v=.non∧Q (.ref x) H2) E) :
  wpAny (model X.prog X.w) X.A (call (.ref C) us) (EP X pins σ Q) X.xe s:=by
 have hq:=h (s.heap.objs.size+1) (I.hok.fresh (Nat.le_succ _)) (Nat.le_trans I.sz (Nat.le_succ _))
 have I2:=Inv.madeErr (C:=C) (us:=us) I
 have r2:Vals (V.ref (s.heap.objs.size+1) :: (vs++dvs)) (Value.ref (s.heap.objs.size+1) :: (us++ds)):=.cons rfl (r.append hd)
 have len2:(Value.ref (s.heap.objs.size+1) :: us++ds).length=ps.length:=by
  have e:=r2.length
  rw[F.len _ _ _ _ hq] at e
  exact e.symm
 obtain⟨nm,q,N,bs,hdct,sn,sub,ab,col,dd,k0,k1,k2,k3,k5,lk⟩:=M.at_
 have hus:us.length≤sizeLine:=by rw[← r.length];exact Nat.le_of_lt (jam hl)
 obtain⟨hh,g,d,t,os⟩:=s
 refine wpAny_call (jdn (f:=f) M.facts M.hasB M.noA M.noN (I.kIn _ _ lk) (PySem.W.looks_findIn I.kIn M.init) (fun self=>PySem.W.bind_fn I.kIn self (beq_iff_eq.mp M.fn)) hus (codeAny_mono (F.run _ X.stack _ _ ⟨Value.ref (hh.objs.size+1) :: us,[]⟩ (Value.ref (hh.objs.size+1) :: (us++ds)) _ _ E (hr.make C us [])
  (I2.env0.make C us []) (hb _ (Value.ref (hh.objs.size+1) :: us) I2.kIn len2) r2 hq) fun rr s' z=>?_))
 cases rr with
 | error e=>exact hx pins σ _ _ e s' I2 z
 | ok fl =>
  cases fl with
  | ret u =>
   obtain⟨v,H',I3,rv,ev,q3⟩:=I2.after z
   subst ev
   exact⟨rv,⟨V.ref (hh.objs.size+1),H',I3,rfl,q3⟩⟩
  | next=>exact False.elim z
  | brk=>exact False.elim z
  | cont=>exact False.elim z
end
structure ErrS (K:PySem.W.Frag) (C:Addr) (f:Str) (bm:List Value):Prop where
 at_:∃ nm q N bs sn sub ab col dd k0 k1 k2 k3 k5 newId,K.lookup C=some (excClassObj nm q C N bs bm true sn sub ab col dd k0 k1 k2 k3 k5 newId)
 passes:∀ x:Addr,refuseLoop (.ref x) "__setattr__" bm=pure ()
 obj:bm.contains (.type "object")=true
 set:PySem.W.findIn K (.ref C) "__setattr__"=some (some (.builtin "object.__setattr__"))
 none:PySem.W.findIn K (.ref C) f=some none
def sErr (K:PySem.W.Frag) (ta tv:TE) (f:Str):TS:=fun D σ H=>tv σ H fun y H1=>ta σ H1 fun x H2=>∃ a C bm,x=.ref a∧H2 a=some (errN a C none)∧ErrS K C f bm ∧
 ∀ dx,H2 dx=none→dx≠a→D.nx σ (upd (upd H2 dx (.xd [(f,y)])) a (errN a C (some dx)))
theorem ps_err {X:Cx}{o value:Expr}{ta tv:TE}{f:Str}{pos pos':Pos} (ha:PE X o ta) (hv:PE X value tv) (hs:swapsWith value (some (.Attribute o f pos')) pos.line X.env=pure false):PS X (.Assign [.Attribute o f pos'] value pos) (sErr X.K ta tv f):=by
 intro pins s σ H D I h
 refine plainObj_wpAny_Assign_Attribute (thn (hv pins s σ H _ I h) fun u s1 ⟨y,H1,I1,ry,q⟩=>thn (ha pins s1 σ H1 _ I1 q) fun ov s2 ⟨x,H2,I2,rx,a,C,bm,ex,ea,c,q2⟩=>?_) hs
 subst ex
 obtain rfl:ov=Value.ref a:=rx
 obtain⟨nm,qn,N,bs,sn,sub,ab,col,dd,k0,k1,k2,k3,k5,newId,lk⟩:=c.at_
 obtain⟨⟨t,sl,ao⟩,_,_⟩:=I2.hok a _ ea
 have kin:=I2.kIn
 have fr:H2 s2.heap.objs.size=none:=I2.hok.fresh (Nat.le_refl _)
 have lt:a < s2.heap.objs.size:=Heap.lt_size ao
 have q3:=q2 _ fr (Nat.ne_of_gt lt)
 obtain⟨hh,g,d,tk,os⟩:=s2
 refine jar (c.passes a) c.obj (kin _ _ lk) (PySem.W.looks_findIn kin c.set) (PySem.W.looks_findIn kin c.none) ao rfl (fun _ z=>by cases z) rfl fun h' tk' e1 e2 e3=>?_
 have keep:∀ b w,H2 b=some w→w≠errN a C none→upd (upd H2 hh.objs.size (.xd [(f,y)])) a (errN a C (some hh.objs.size)) b=some w:=fun b w e ne=>by
  have h1:b≠a:=fun z=>by subst z;rw[ea] at e;cases e;exact ne rfl
  have h2:b≠hh.objs.size:=fun z=>by subst z;rw[fr] at e;cases e
  rw[j08 h1,j08 h2];exact e
 have un:∀ b,H2 b=none→b≠a:=fun b e z=>by subst z;rw[ea] at e;cases e
 refine⟨σ,_,I2.call (ch:=[]) (g':=g) (d':=d) (t':=tk') ⟨fun b w e n _ _=>e3 b w (un b n) e,fun b w e n _ _=>⟨w.slots,e3 b w (un b n) e⟩,fun b w e n _=>?_,fun b w e _=>?_,fun b xs e=>keep b _ e (by simp),fun b w v e=>keep b _ e (by simp),fun b ps e=>⟨#[],by rw[keep b _ e (by simp)];simp⟩⟩ (fun b w e=>?_) I2.bare fun b z=>absurd z (by simp),q3⟩
 ·rw[j08 (un b n),j08 (Nat.ne_of_lt (Heap.lt_size e))];exact n
 ·by_cases z:b=a
  ·subst z;exact⟨_,e1⟩
  ·exact⟨w,e3 b w z e⟩
 ·by_cases z:b=a
  ·subst z
   rw[j04] at e
   cases e
   exact⟨⟨t,sl,e1⟩,⟨_,e1⟩,fun h1 h2 ⟨t,sl,e⟩ k=>⟨t,sl,k _ e⟩⟩
  rw[j08 z] at e
  by_cases z2:b=hh.objs.size
  ·subst z2
   rw[j04] at e
   cases e
   refine⟨_,e2,fun n=>?_⟩
   by_cases hn:n=f
   ·subst hn
    simpa[List.lookup,RelO] using ry
   ·have hb:(n == f)=false:=beq_eq_false_iff_ne.mpr hn
    simp[List.lookup,hb,hn,RelO]
  ·rw[j08 z2] at e
   refine (I2.hok b w e).stay (fun b1 w1 hc e4=>e3 b1 w1 ?_ e4) (fun b1 e4=>keep b1 _ e4 (by simp)) fun b1 xs e4=>keep b1 _ e4 (by simp)
   rcases hc with rfl | hc
   ·exact z
   ·intro zz;subst zz;rw[ea] at hc;cases hc
def tErr (C:Addr) (n:Nat) (sp:Sp) (dvs:List V) (E:XK) (t:TA):TE:=fun σ H Q=>t σ H fun vs H1=>vs.length≤1000∧∀ x,H1 x=none→n≤x →
 sp (.ref x :: (vs++dvs)) (upd H1 x (errN x C none)) (fun v H2=>v=.non∧Q (.ref x) H2) E
section
variable {X:Cx}{CX:CXT}{k:Nat}{f C:Addr}{fd:FuncData}{ps:List Str}{sp:Sp}{dvs:List V}{ds:List Value}{E:XK}{bm bmB:List Value}{B newId initId:String}{x:Str}{p pos:Pos}{e:Expr}{es:List Expr}{t:TA}
theorem jcb (M:ErrM X.K C f bm bmB B newId initId) (F:FnOk X.prog X.w X.K X.mg X.base CX k f fd ps sp) (hr:Room (k+1) X.A) (hg:Gl X x) (hm:X.mg x=some (.ref C)) (hb:Binds X.K fd ps ds) (hd:Vals dvs ds) (hx:j36 CX X E)
  (hdb:(x == ("__debug__":Str))=false:=by decide):PE X (.Call (.Name x p) [] [] pos) (tErr C X.s₀.heap.objs.size sp dvs E tNil):=by
 intro pins s σ H Q I h
 refine wpAny_Call_Name_kw (j3c I hg hm ?_ hdb)
 obtain⟨l,q⟩:=(show ([]:List V).length≤1000∧_ from h)
 exact PySem.W.callWith_K0 I.kIn M.kp (jgb (us:=[]) (vs:=[]) M F hr hb hd hx I .nil l q)
end
def Ext (H H':Hp):Prop:=∀ b o,H b=some o→H' b=some o
theorem Ext.rfl' {H:Hp}:Ext H H:=fun _ _ h=>h
theorem Ext.tr {H H1 H2:Hp} (a:Ext H H1) (b:Ext H1 H2):Ext H H2:=fun c o h=>b c o (a c o h)
theorem j0g {H:Hp}{p:Addr}{o:HO} (n:H p=none):Ext H (upd H p o):=fun b u h=>by
 rw[j08 (j05 h n)];exact h
theorem Ext.free {H H':Hp} (e:Ext H H') {l:Addr} (h:H' l=none):H l=none:=by
 cases q:H l with
 | none=>rfl
 | some o=>rw[e l o q] at h;cases h
theorem Ext.rd {H H':Hp}{a:Addr}{u:HO} (e:Ext H H') (h:Rd H a u):Rd H' a u:=by
 rcases h with h | ⟨o,h⟩
 ·exact .inl (e _ _ h)
 ·exact .inr ⟨o,e _ _ h⟩
theorem Ext.seqL {K:PySem.W.Frag}{H H':Hp}{a:Addr}{xs:List V} (e:Ext H H') (h:SqL K H a xs):SqL K H' a xs:=h.elim (fun h=>.inl (e.rd h)) .inr
theorem Ext.seqT {K:PySem.W.Frag}{H H':Hp}{a:Addr}{xs:List V} (e:Ext H H') (h:SqT K H a xs):SqT K H' a xs:=h.elim (fun h=>.inl (e.rd h)) .inr
theorem up {H H':Hp}{p:Addr}{o:HO} (e:Ext H H') (h:H p=some o):H' p=some o:=e _ _ h
def But (x:Addr) (H H':Hp):Prop:=∀ b o,b≠x→H b=some o→H' b=some o
theorem Ext.but {x:Addr}{H H1 H2:Hp} (a:Ext H H1) (b:But x H1 H2) (n:H x=none):Ext H H2:=fun c o h=>b c o (j05 h n) (a c o h)
theorem j4k {H:Hp}{p:Addr}{o:HO}:But p H (upd H p o):=fun b u n h=>by rw[j08 n];exact h
inductive Kd where | non | bl | int | str | tup | lst | dct
 deriving DecidableEq
def Kd.ty:Kd→String
 | .non=>"NoneType" | .bl=>"bool" | .int=>"int" | .str=>"str" | .tup=>"tuple" | .lst=>"list" | .dct=>"dict"
def HasK (H:Hp):V→Kd→Prop
 | .non,k=>k=.non
 | .bl _,k=>k=.bl
 | .int _,k=>k=.int
 | .str _,k=>k=.str
 | .ref a,k=>(∃ xs,H a=some (.tup xs)∧k=.tup)∨(∃ xs,H a=some (.lst xs)∧k=.lst)∨(∃ kvs,H a=some (.dK kvs)∧k=.dct)
 | _,_=>False
theorem HasK.t {H:Hp}{a:Addr}{xs:List V} (h:H a=some (.tup xs)):HasK H (.ref a) .tup:=.inl ⟨xs,h,rfl⟩
theorem HasK.l {H:Hp}{a:Addr}{xs:List V} (h:H a=some (.lst xs)):HasK H (.ref a) .lst:=.inr (.inl ⟨xs,h,rfl⟩)
theorem HasK.d {H:Hp}{a:Addr}{kvs:List (Key × V)} (h:H a=some (.dK kvs)):HasK H (.ref a) .dct:=.inr (.inr ⟨kvs,h,rfl⟩)
theorem HasK.tyOf {K:PySem.W.Frag}{H:Hp}{x:V}{k:Kd} (h:HasK H x k):TyOf K H x (.type k.ty):=by
 cases x with
 | non=>cases (show k=.non from h);exact .non
 | bl b=>cases (show k=.bl from h);exact .bl b
 | int b=>cases (show k=.int from h);exact .int b
 | str b=>cases (show k=.str from h);exact .str b
 | ref a =>
  rcases h with⟨xs,h,rfl⟩ | ⟨xs,h,rfl⟩ | ⟨xs,h,rfl⟩
  ·exact .tup h
  ·exact .lst h
  ·exact .dK h
 | _=>exact (show False from h).elim
inductive D where
 | non | bl (b:Bool) | int (i:Int) | str (x:Str) | tup (l:List D) | lst (l:List D) | dct
def D.kd:D→Kd
 | .non=>.non | .bl _=>.bl | .int _=>.int | .str _=>.str | .tup _=>.tup | .lst _=>.lst | .dct=>.dct
mutual
def Rep (H:Hp):D→V→Prop
 | .non,v=>v=.non
 | .bl b,v=>v=.bl b
 | .int i,v=>v=.int i
 | .str x,v=>v=.str x
 | .tup l,v=>∃ p xs,v=.ref p∧H p=some (.tup xs)∧RepL H l xs
 | .lst l,v=>∃ p xs,v=.ref p∧H p=some (.lst xs)∧RepL H l xs
 | .dct,v=>∃ p kvs,v=.ref p∧H p=some (.dK kvs)
def RepL (H:Hp):List D→List V→Prop
 | [],xs=>xs=[]
 | d :: r,xs=>∃ x t,xs=x :: t∧Rep H d x∧RepL H r t
end
def jgc:HO→Bool
 | .tup _=>true | .lst _=>true | .dK _=>true | _=>false
def Kp (H H':Hp):Prop:=∀ b o,H b=some o→jgc o=true→H' b=some o
theorem Ext.kp {H H':Hp} (e:Ext H H'):Kp H H':=fun b o h _=>e b o h
mutual
theorem Rep.keep' {H H':Hp} (e:Kp H H'):∀ (d:D) {v:V},Rep H d v→Rep H' d v
 | .non,_,h=>by unfold Rep at h ⊢;exact h
 | .bl _,_,h=>by unfold Rep at h ⊢;exact h
 | .int _,_,h=>by unfold Rep at h ⊢;exact h
 | .str _,_,h=>by unfold Rep at h ⊢;exact h
 | .tup l,_,h=>by unfold Rep at h ⊢;obtain⟨p,xs,h1,h2,h3⟩:=h;exact⟨p,xs,h1,e _ _ h2 rfl,RepL.keep' e l h3⟩
 | .lst l,_,h=>by unfold Rep at h ⊢;obtain⟨p,xs,h1,h2,h3⟩:=h;exact⟨p,xs,h1,e _ _ h2 rfl,RepL.keep' e l h3⟩
 | .dct,_,h=>by unfold Rep at h ⊢;obtain⟨p,xs,h1,h2⟩:=h;exact⟨p,xs,h1,e _ _ h2 rfl⟩
theorem RepL.keep' {H H':Hp} (e:Kp H H'):∀ (l:List D) {xs:List V},RepL H l xs→RepL H' l xs
 | [],_,h=>by unfold RepL at h ⊢;exact h
 | d :: r,_,h=>by unfold RepL at h ⊢;obtain⟨x,t,h1,h2,h3⟩:=h;exact⟨x,t,h1,Rep.keep' e d h2,RepL.keep' e r h3⟩
end
theorem Rep.keep {H H':Hp}{d:D}{v:V} (h:Rep H d v) (e:Kp H H'):Rep H' d v:=Rep.keep' e d h
theorem RepL.keep {H H':Hp}{d:List D}{v:List V} (h:RepL H d v) (e:Kp H H'):RepL H' d v:=RepL.keep' e d h
theorem Rep.mono {H H':Hp}{d:D}{v:V} (h:Rep H d v) (e:Ext H H'):Rep H' d v:=h.keep e.kp
theorem RepL.mono {H H':Hp}{d:List D}{v:List V} (h:RepL H d v) (e:Ext H H'):RepL H' d v:=h.keep e.kp
theorem RepL.length {H:Hp}:∀ {l:List D}{xs:List V},RepL H l xs→l.length=xs.length
 | [],_,h=>by unfold RepL at h;rw[h];rfl
 | d :: r,_,h=>by unfold RepL at h;obtain⟨x,t,rfl,_,h3⟩:=h;rw[List.length_cons,List.length_cons,RepL.length h3]
theorem RepL.get {H:Hp}:∀ {l:List D}{xs:List V}{i:Nat}{x:V},RepL H l xs→xs[i]?=some x→∃ d,l[i]?=some d∧Rep H d x
 | [],_,i,x,h,e=>by unfold RepL at h;subst h;simp at e
 | d :: r,_,0,x,h,e=>by unfold RepL at h;obtain⟨y,t,rfl,h2,_⟩:=h;simp at e;subst e;exact⟨d,rfl,h2⟩
 | d :: r,_,i+1,x,h,e=>by unfold RepL at h;obtain⟨y,t,rfl,_,h3⟩:=h;obtain⟨z,z1,z2⟩:=RepL.get (i:=i) h3 (by simpa using e);exact⟨z,by simpa using z1,z2⟩
theorem RepL.nil {H:Hp}:RepL H [] []:=by unfold RepL;rfl
theorem RepL.cons {H:Hp}{d:D}{x:V}{l:List D}{xs:List V} (h:Rep H d x) (t:RepL H l xs):RepL H (d :: l) (x :: xs):=by unfold RepL;exact⟨x,xs,rfl,h,t⟩
theorem Rep.intI {H:Hp}{i:Int}:Rep H (.int i) (.int i):=by unfold Rep;rfl
theorem Rep.strI {H:Hp}{b:Str}:Rep H (.str b) (.str b):=by unfold Rep;rfl
theorem Rep.tupI {H:Hp}{p:Addr}{xs:List V}{l:List D} (h:H p=some (.tup xs)) (r:RepL H l xs):Rep H (.tup l) (.ref p):=by unfold Rep;exact⟨p,xs,rfl,h,r⟩
theorem Rep.lstI {H:Hp}{p:Addr}{xs:List V}{l:List D} (h:H p=some (.lst xs)) (r:RepL H l xs):Rep H (.lst l) (.ref p):=by unfold Rep;exact⟨p,xs,rfl,h,r⟩
theorem RepL.ints {H:Hp}:∀ ns:List Int,RepL H (ns.map D.int) (ns.map V.int)
 | []=>.nil
 | _ :: r=>.cons .intI (RepL.ints r)
theorem Rep.kd {H:Hp}{d:D}{v:V} (h:Rep H d v):HasK H v d.kd:=by
 cases d with
 | tup l=>unfold Rep at h;obtain⟨p,xs,rfl,h,_⟩:=h;exact .t h
 | lst l=>unfold Rep at h;obtain⟨p,xs,rfl,h,_⟩:=h;exact .l h
 | dct=>unfold Rep at h;obtain⟨p,xs,rfl,h⟩:=h;exact .d h
 | _=>unfold Rep at h;subst h;exact rfl
mutual
def D.fine:D→Bool
 | .tup l=>D.fineL l
 | .lst l=>D.fineL l
 | .dct=>false
 | _=>true
def D.fineL:List D→Bool
 | []=>true
 | d :: r=>d.fine && D.fineL r
def D.depth:D→Nat
 | .tup l=>D.depthL l+1
 | .lst l=>D.depthL l+1
 | _=>0
def D.depthL:List D→Nat
 | []=>0
 | d :: r=>max d.depth (D.depthL r)
end
theorem j8k:∀ {l:List D}{i:Nat}{d:D},D.fineL l=true→l[i]?=some d→d.fine=true
 | [],_,_,_,e=>by simp at e
 | x :: r,0,d,h,e=>by simp at e;subst e;unfold D.fineL at h;exact (Bool.and_eq_true_iff.mp h).1
 | x :: r,i+1,d,h,e=>by unfold D.fineL at h;exact j8k (Bool.and_eq_true_iff.mp h).2 (by simpa using e)
theorem j6l:∀ {l:List D}{n i:Nat}{d:D},D.depthL l≤n→l[i]?=some d→d.depth≤n
 | [],_,_,_,_,e=>by simp at e
 | x :: r,n,0,d,h,e=>by simp at e;subst e;unfold D.depthL at h;omega
 | x :: r,n,i+1,d,h,e=>by unfold D.depthL at h;exact j6l (l:=r) (by omega) (by simpa using e)
theorem j3j (ns:List Int):D.depthL (ns.map D.int)=0:=by
 induction ns with
 | nil=>rfl
 | cons n r ih=>show max (D.depth (.int n)) (D.depthL (r.map D.int))=0;rw[ih];rfl
abbrev CXU (P:Program) (w:World):CXT:=CXE P w
theorem j0s {X:Cx}{P:Program}{w:World}:j36 (CXU P w) X E0:=passE0
theorem noneU {P:Program}:∀ (w:World) (H:Hp) (s:Shared) (e:Value) (s':Shared),CXU P w [] H s (fun _ _ _=>False) e s'→False:=fun _ _ _ _ _ h=>by
 obtain⟨_,_,_,_,_,_,_,_,_,_,q⟩:=h
 exact q
theorem FnOk.no {P:Program}{w:World}{K:PySem.W.Frag}{mg:Str→Option Value}{base:Heap}{CX:CXT}{k:Nat}{f:Addr}{fd:FuncData}{ps:List Str}:FnOk P w K mg base CX k f fd ps (fun _ _ _ _=>False) :=
 ⟨fun _ _ _ _ h=>h.elim,fun _ _ _ _ _ _ _ _ _ _ _ _ _ h=>h.elim⟩
section
variable {P:Program}{w:World}{K:PySem.W.Frag}{mg:Str→Option Value}{base:Heap}
theorem Fun.okU {x qual:Str}{st:Stmt}{f:Addr}{fd:FuncData}{N ps:List Str}{k:Nat}{sp:Sp} (F:Fun K x qual st f fd) (S:FnScope N ps (j01 st)) (len:∀ vs H Q E,sp vs H Q E→vs.length=ps.length)
  (hbody:∀ (cdv:Value) (A:Around) (outer:List Env) (s:Shared) (H:Hp) (vs:List V) (Q:VK) (E:XK),Room k (A.deeper (envOfC qual (j01 st) s.heap.objs.size f cdv))→sp vs H Q E →
   ∃ t,PSs (cxOf (CXU P w) P w K mg base N qual (j01 st) f cdv A outer s H E).nox (j0a st) t∧t { nx:=fun _ H'=>Q .non H',rt:=Q } (start N vs) H):FnOk P w K mg base (CXU P w) (k+1) f fd ps sp:=by
 obtain⟨oc,od,kV,doc,pm,an,cdv,ct,osl,rfl,lk,hcd⟩:=F.ex
 refine jjb lk hcd S len fun A outer s H vs Q E hr hsp=>?_
 obtain⟨t,h,q⟩:=hbody cdv A outer s H vs Q E hr hsp
 exact⟨t,h.nox,q⟩
theorem Fun.okX {x qual:Str}{st:Stmt}{f:Addr}{fd:FuncData}{N ps:List Str}{k:Nat}{sp:Sp} (F:Fun K x qual st f fd) (S:FnScope N ps (j01 st)) (len:∀ vs H Q E,sp vs H Q E→vs.length=ps.length)
  (hbody:∀ (cdv:Value) (A:Around) (outer:List Env) (s:Shared) (H:Hp) (vs:List V) (Q:VK) (E:XK),Room k (A.deeper (envOfC qual (j01 st) s.heap.objs.size f cdv))→sp vs H Q E →
   ∃ t,PSs ((cxOf (CXU P w) P w K mg base N qual (j01 st) f cdv A outer s H E).wish (XS (cxOf (CXU P w) P w K mg base N qual (j01 st) f cdv A outer s H E) E)) (j0a st) t∧t { nx:=fun _ H'=>Q .non H',rt:=Q } (start N vs) H):FnOk P w K mg base (CXU P w) (k+1) f fd ps sp:=by
 obtain⟨oc,od,kV,doc,pm,an,cdv,ct,osl,rfl,lk,hcd⟩:=F.ex
 refine jjb lk hcd S len fun A outer s H vs Q E hr hsp=>?_
 obtain⟨t,h,q⟩:=hbody cdv A outer s H vs Q E hr hsp
 exact⟨t,h.wished leftX,q⟩
end
abbrev ib:Int→Nat:=Builtin.Int.intBits
theorem j7i {ns:List Int} (h:PySem.W.WData.layableAll [.list (ns.map .int)]=true):∀ z∈ns,ib z≤1048576:=fun z hz=>by
 have h1:=PySem.W.layableW_arg h _ (List.mem_singleton.mpr rfl)
 have h2:=PySem.W.layableW_item h1 (.int z) (List.mem_map.mpr ⟨z,hz,rfl⟩)
 have h3:=(PySem.W.layableW_iff.mp h2).2.2
 simpa[PySem.W.WData.weight,ib,Builtin.Int.intBits] using h3
end L2
namespace L2
open PySem PySem.W PySem.Calls PyProof.Rows
theorem j5m {l:OpenLaw}{n:Nat}{q:Program}{loose:List Str}{XP:(Str→Option Value)→Heap→Prop}{YP:World→Heap→Prop}{d:DefRec}
  (hn:l.most=some n) (hdf:d.params.defaults=[])
  (call:∀ (w:World) (s₀ s₁:Shared) (mg mb:Str→Option Value) (fa:Addr) (o:Obj) (pm cd doc:Value) (a:Addr) (vs:List Value) (ns:List Int),
   Ground q loose [] XP w s₀ mg mb s₁.heap→YP w s₁.heap →
   s₁.heap.get? fa=some o→o.data=.func (docDef d.name d.params d.body d.scope pm cd doc)→s₁.heap.CodeRec cd d.name→mg d.name=some (.ref fa) →
   s₁.heap.get? a=some { cls:=.type "list",data:=.seq vs.toArray }→IntsAre vs ns→ns.length≤n→(∀ z∈ns,ib z≤1048576)→s₁.gens=#[] →
   codeAny (model l.prog w) callerA (.call (.ref fa) ⟨[.ref a],[]⟩) (fun r s'=>r=.ok (.ret (.bool true))∧OldK s₁.heap s'.heap∧s'.os=s₁.os∧AllBare s'.gens) s₁) :
  WalkO q loose XP YP l.row.toRowW d [] (fun f vs=>PySem.call f vs):=by
 intro w s₀ s₁ mg mb G Y fa o pm cd doc dV kV ho hd hcd hD hmg hg args vals as hpre hlay hrd hwl hlo
 obtain rfl:dV=.none:=Dflts.none hD hdf
 obtain rfl:kV=.none:=Dflts.noKw hD
 obtain⟨a,vs,ns,rfl,rfl,hobj,hints,hlen⟩:=Att.script_of hn hpre hwl
 refine enter_call (codeAny_mono (call w s₀ s₁ mg mb fa o pm cd doc a vs ns G Y ho (fd_plain hd) hcd hmg hobj hints hlen (j7i hlay) hg) fun r s' hq=>?_)
 obtain⟨rfl,h2,h3,h4⟩:=hq
 exact⟨.inl ⟨.bool true,.bool true,[],rfl,fun _=>rfl,.bool true,Att.post_true l _,fun _=>⟨List.Pairwise.nil,fun _ hm=>(nomatch hm)⟩⟩,h2,h3,h4⟩
section
variable {X:Cx}
def CMulB (i j:Int):Prop:=(-18446744073709551616 < i∧i < 18446744073709551616)∨(-18446744073709551616 < j∧j < 18446744073709551616)∨IntMulOk i j
theorem CMulB.ok {i j:Int} (h:CMulB i j):IntMulOk i j:=by
 rcases h with⟨h1,h2⟩ | ⟨h1,h2⟩ | h
 ·exact .of_left (intBits_le_64 (by omega) (by omega))
 ·exact .of_right (intBits_le_64 (by omega) (by omega))
 ·exact h
theorem jgd:OpR X (binaryOp .Mult) (rI CMulB fun i j=>.int (i * j)):=opI fun _ _ _ _ _ _ _ hc q=>mul_int q hc.ok
def CDivB (i j:Int):Prop:=0 < j∧j < 1000000000000000000000000000000000000000000000000000000000000
theorem CDivB.no {i j:Int} (h:CDivB i j):Builtin.divisionGoesByPylong i j=false:=by
 refine PyProof.noPylong_of_log2 ?_
 have h1:=h.1
 have h2:=h.2
 have h0:j.natAbs≠0:=by omega
 refine (Nat.log2_lt h0).mpr ?_
 have e:(1000000000000000000000000000000000000000000000000000000000000:Nat) < 2 ^ 9000:=by decide +kernel
 omega
theorem j2q:OpR X (binaryOp .FloorDiv) (rI CDivB fun i j=>.int (i / j)):=opI fun i j _ _ _ _ _ hc q=>by
 have h1:=hc.1
 exact floordiv_int (by omega) (by rw[Int.fdiv_eq_ediv_of_nonneg i (by omega)];exact q) (.inl hc.no)
def jfk (K:PySem.W.Frag):List V→Hp→VK→Prop:=fun xs H Q=>∃ x t b,((∃ n,xs=[x,.ty n]∧PySem.W.kitOne K t (.type n)=some b)∨∃ C,xs=[x,.ref C]∧PySem.W.kitOne K t (.ref C)=some b)∧TyOf K H x t∧Q (.bl b) H
theorem j8l:CallR X (.builtin "isinstance") (jfk X.K):=by
 intro pins s σ H xs us Q I r h
 obtain⟨x,t,b,hx,ty,q⟩:=h
 rcases hx with⟨n,rfl,e⟩ | ⟨n,rfl,e⟩
 ·obtain⟨u,w',rfl,ru,rw'⟩:=jfi r
  obtain rfl:w'=Value.type n:=rw'
  exact j6e I ru ty e fun tk=>⟨.bl b,H,I.tok _,rfl,q⟩
 ·obtain⟨u,w',rfl,ru,rw'⟩:=jfi r
  obtain rfl:w'=Value.ref n:=rw'
  exact j6e I ru ty e fun tk=>⟨.bl b,H,I.tok _,rfl,q⟩
theorem jge {K:PySem.W.Frag} (k:Kd):PySem.W.kitOne K (.type k.ty) (.type "int")=some (k == .int || k == .bl):=by cases k <;> rfl
theorem jdq {K:PySem.W.Frag} (k:Kd):PySem.W.kitOne K (.type k.ty) (.type "bool")=some (k == .bl):=by cases k <;> rfl
theorem jgf {K:PySem.W.Frag} (k:Kd):PySem.W.kitOne K (.type k.ty) (.type "str")=some (k == .str):=by cases k <;> rfl
theorem jas {K:PySem.W.Frag} (k:Kd):PySem.W.kitOne K (.type k.ty) (.type "tuple")=some (k == .tup):=by cases k <;> rfl
theorem jdr {K:PySem.W.Frag} (k:Kd):PySem.W.kitOne K (.type k.ty) (.type "list")=some (k == .lst):=by cases k <;> rfl
def rSum (K:PySem.W.Frag):List V→Hp→VK→Prop:=fun xs H Q=>∃ (p:Addr) (ns:List Int),xs=[.ref p]∧SqL K H p (ns.map V.int)∧Q (.int ns.sum) H
theorem cSum (hc:X.calm=true):CallR X (.builtin "sum") (rSum X.K):=by
 intro pins s σ H xs us Q I r h
 obtain⟨p,ns,rfl,hq,q⟩:=h
 obtain⟨u,rfl,rx⟩:=j4a r
 cases rx
 obtain⟨its,r',pl,hz⟩:=I.list hq
 have hi:IntsAre its ns:=j14 r'
 have hall:AllInts its.toArray:=hi.allInts
 obtain⟨ys,e⟩:=hall.items
 refine sum_intListG (I.ok.hd hc) (xs:=ys) (by rw[← e];exact pl.isList) fun h' tk t' hk=>⟨.int ns.sum,H,I.kept hk,⟨t',?_⟩,q⟩
 have e2:numsOf its=ns:=hi.numsOf
 have e3:=nums_intItems (xs:=ys)
 rw[← e] at e3
 rw[preSum_eq,List.take_of_length_le (by simp),← e3]
 exact congrArg (fun z=>Value.int z t') (congrArg List.sum e2)
def rAbs:List V→Hp→VK→Prop:=fun xs H Q=>∃ i:Int,xs=[.int i]∧Q (.int (i.natAbs:Int)) H
theorem cAbs:CallR X (.builtin "abs") rAbs:=by
 intro pins s σ H xs us Q I r h
 obtain⟨i,rfl,q⟩:=h
 refine jda pins s σ H _ us Q I r ⟨i,rfl,?_⟩
 have e:(if i < 0 then -i else i)=(i.natAbs:Int):=by split <;> omega
 rw[e];exact q
def rLen (K:PySem.W.Frag):List V→Hp→VK→Prop:=fun xs H Q=>∃ x n,xs=[x]∧LenV K x H n∧Q (.int n) H
theorem cLen:CallR X (.builtin "len") (rLen X.K):=jdb
def jkj (K:PySem.W.Frag):List V→Hp→VK→Prop:=fun xs H Q=>∃ p ys,xs=[.ref p]∧(SqL K H p ys∨SqT K H p ys)∧∀ l,H l=none→Q (.ref l) (upd H l (.lst ys))
theorem jgg:CallR X (.type "list") (jkj X.K):=j5i
def jgh (K:PySem.W.Frag):List V→Hp→VK→Prop:=fun xs H Q=>∃ p ys,xs=[.ref p]∧((SqL K H p ys∧∀ l,H l=none→Q (.ref l) (upd H l (.tup ys)))∨(SqT K H p ys∧Q (.ref p) H))
theorem j4l:CallR X (.type "tuple") (jgh X.K):=j4i
def rInU (K:PySem.W.Frag) (neg:Bool):R2:=rIn K neg
theorem oIn:OpR X (compareOp .In) (rInU X.K false):=jaj
theorem jgi:OpR X (compareOp .NotIn) (rInU X.K true):=j5g
def rIsNo:R2:=fun x y H Q=>y=.non∧Q (.bl (decide (x=.non))) H
def jgj:R2:=fun x y H Q=>y=.non∧Q (.bl (!decide (x=.non))) H
theorem oIsN:OpR X (compareOp .Is) rIsNo:=op_isN
theorem oNotN:OpR X (compareOp .IsNot) jgj:=jfs
theorem oIx:IxR X (rIx X.K):=ix_seq
def rSlU (K:PySem.W.Frag):V→Option Int→Option Int→Hp→VK→Prop:=fun x lo hi H Q=>rSlT K x lo hi H Q∨rSlL K x lo hi H Q
theorem oSl:SlR X (rSlU X.K):=sl_tup.or jj8
def tTru (K:PySem.W.Frag) (ta:TE):TT:=fun σ H Q=>ta σ H fun x H'=>∃ k,TruV K x H' k∧Q k H'
theorem ptT {a:Expr}{ta:TE} (ha:PE X a ta) (he:∀ whole,isTrue a X.env whole=(do let v ← whole;standAt a.pos;holding [v] (truthy v))):PT X a (tTru X.K ta):=jd9 ha he
structure CMeth (K:PySem.W.Frag) (C:Addr) (m:Str) (f:Addr):Prop where
 ga:PySem.W.specialIn K (.ref C) "__getattribute__"=some (some (.builtin "type.__getattribute__"))
 rd:PySem.W.readsIn K C (.type "type")=true
 at_:PySem.W.findCls K (.ref C) (.type "type") m=some (.val (.ref f))
 kp:PySem.W.keepIn K (.ref f)=true
end
section
variable {X:Cx}{pins:List (Addr × Obj)}{σ:St}{H:Hp}{s:Shared}{h':Heap}
theorem Inv.turnLaid {t':Nat}{ch:List Addr}{a:Addr}{o:HO} (I:Inv X pins σ H s) (k:∀ b u,b∉ch→s.heap.get? b=some u→h'.get? b=some u) (hf:∀ b∈ch,FpOk X pins H b)
  (hp:s.heap.objs.size≤a) (new:ObjOk X.prog X.w (upd H a o) h' a o):Inv X pins σ (upd H a o) { s with heap:=h',toks:=t' }:=by
 have hn:H a=none:=I.hok.fresh hp
 have nit:∀ b u,H b=some u→b∉ch:=fun b u e z=>by rw[(hf b z).1] at e;cases e
 have old:∀ b u,H b=some u→upd H a o b=some u:=fun b u e=>by rw[j08 (j05 e hn)];exact e
 refine I.step (g':=s.gens) (d':=s.drawn) (ch:=ch) (fun b hb=>?_) (fun b u _ _ hc e _=>k b u hc e) (fun b u _ _ hc e _=>⟨u.slots,k b u hc e⟩) (fun b u _ e n=>?_)
  (fun b u hc e=>⟨u,k b u hc e⟩) (fun b xs e=>old _ _ e) (fun b _ _ e=>old _ _ e) (fun b ps e=>⟨#[],by rw[old _ _ e];simp⟩) (fun m hm=>?_) (fun b u e=>?_) I.bare
 ·obtain⟨_,f1,_,f3,f4,f5⟩:=hf b hb
  exact⟨f3,f1,f4,f5⟩
 ·rw[j08 (fun z=>by subst z;exact absurd (Heap.lt_size e) (Nat.not_lt.mpr hp))];exact n
 ·obtain⟨ol,es,ep,ho,r⟩:=hm
  exact⟨ol,es,ep,k _ ol (fun z=>(hf _ z).2.1 rfl) ho,r⟩
 ·by_cases hb:b=a
  ·subst hb;rw[j04] at e;cases e;exact new
  ·rw[j08 hb] at e
   refine (I.hok b u e).stay (fun c v hc q=>k c v ?_ q) (fun c q=>old _ _ q) fun c xs q=>old _ _ q
   rcases hc with z | z
   ·rw[z];exact nit b u e
   ·exact nit c _ z
theorem Inv.turns {t':Nat}{ch:List Addr} (I:Inv X pins σ H s) (k:∀ b u,b∉ch→s.heap.get? b=some u→h'.get? b=some u) (hf:∀ b∈ch,FpOk X pins H b):Inv X pins σ H { s with heap:=h',toks:=t' }:=by
 have nit:∀ b u,H b=some u→b∉ch:=fun b u e z=>by rw[(hf b z).1] at e;cases e
 refine I.step (g':=s.gens) (d':=s.drawn) (ch:=ch) (fun b hb=>?_) (fun b u _ _ hc e _=>k b u hc e) (fun b u _ _ hc e _=>⟨u.slots,k b u hc e⟩) (fun b u _ e n=>n)
  (fun b u hc e=>⟨u,k b u hc e⟩) (fun b xs e=>e) (fun b _ _ e=>e) (fun b ps e=>⟨#[],by rw[e];simp⟩) (fun m hm=>?_) (fun b u e=>?_) I.bare
 ·obtain⟨_,f1,_,f3,f4,f5⟩:=hf b hb
  exact⟨f3,f1,f4,f5⟩
 ·obtain⟨ol,es,ep,ho,r⟩:=hm
  exact⟨ol,es,ep,k _ ol (fun z=>(hf _ z).2.1 rfl) ho,r⟩
 ·refine (I.hok b u e).stay (fun c v hc q=>k c v ?_ q) (fun c q=>q) fun c xs q=>q
  rcases hc with z | z
  ·rw[z];exact nit b u e
  ·exact nit c _ z
end
section
variable {K:PySem.W.Frag}{σ:St}{H:Hp}{Q:VK}{D:Ends}
theorem r_var {i:Nat}{v:V} (h:σ[i]?=some (some v)) (q:Q v H):tVar i σ H Q:=⟨v,h,q⟩
theorem r_c {v:V} (q:Q v H):tC v σ H Q:=q
theorem r_op {r:R2}{ta tb:TE} (q:ta σ H fun x H1=>tb σ H1 fun y H2=>r x y H2 Q):tOp r ta tb σ H Q:=q
theorem r_seq {t u:TS} (q:t { D with nx:=u D } σ H):tSeq t u D σ H:=q
theorem r_asg {te:TE}{g:TG} (q:te σ H fun x H1=>g x σ H1 D.nx):tAsg te g D σ H:=q
theorem jgk {i:Nat}{v:V}{R:St→Hp→Prop} (q:R (σ.set i (some v)) H):ja7 i v σ H R:=q
theorem r_if {c:TT}{t u:TS} (q:c σ H fun b H1=>if b=true then t D σ H1 else u D σ H1):tIfS c t u D σ H:=q
theorem r_test {t:TE}{R:Bool→Hp→Prop} (q:t σ H fun x H'=>∃ k,x=.bl k∧R k H'):tTest t σ H R:=q
theorem r_bl {b:Bool}{R:Bool→Prop} (q:R b):∃ k,V.bl b=.bl k∧R k:=⟨b,rfl,q⟩
theorem r_I0 {g:Int→Int→V}{i j:Int} (q:Q (g i j) H):rI0 g (.int i) (.int j) H Q:=⟨i,j,rfl,rfl,q⟩
theorem r_I {C:Int→Int→Prop}{g:Int→Int→V}{i j:Int} (c:C i j) (q:Q (g i j) H):rI C g (.int i) (.int j) H Q:=⟨i,j,rfl,rfl,c,q⟩
theorem jgl {i:Int}{j n:Nat}{v:Int} (hi:i.natAbs < 18446744073709551616) (hj:j≤1000) (e:i ^ j=v) (q:Q (.int v) H):rI CPow (fun i j=>.int (i ^ j.toNat)) (.int i) (.int (j:Int)) H Q :=
 ⟨i,j,rfl,rfl,⟨by omega,by omega,Nat.lt_of_lt_of_le hi (by decide)⟩,by show Q (.int (i ^ (j:Int).toNat)) H;rw[Int.toNat_natCast,e];exact q⟩
theorem jgm (q:Q (.int 1000000000000000000) H):rI CPow (fun i j=>.int (i ^ j.toNat)) (.int 10) (.int 18) H Q:=jgl (n:=0) (j:=18) (by decide) (by decide) (by decide) q
theorem r_eqI {i j:Int} (q:Q (.bl (decide (i=j))) H):rEq (.int i) (.int j) H Q:=⟨rfl,by
 rw[show decide (V.int i=V.int j)=decide (i=j) from decide_eq_decide.mpr ⟨fun z=>by cases z;rfl,fun z=>by rw[z]⟩];exact q⟩
theorem r_neI {i j:Int} (q:Q (.bl (!decide (i=j))) H):rNe (.int i) (.int j) H Q:=⟨rfl,by
 rw[show decide (V.int i=V.int j)=decide (i=j) from decide_eq_decide.mpr ⟨fun z=>by cases z;rfl,fun z=>by rw[z]⟩];exact q⟩
theorem r_eqB {i j:Bool} (q:Q (.bl (decide (i=j))) H):rEq (.bl i) (.bl j) H Q:=⟨rfl,by
 rw[show decide (V.bl i=V.bl j)=decide (i=j) from decide_eq_decide.mpr ⟨fun z=>by cases z;rfl,fun z=>by rw[z]⟩];exact q⟩
theorem r_eqS {i j:Str} (q:Q (.bl (decide (i=j))) H):rEq (.str i) (.str j) H Q:=⟨rfl,by
 rw[show decide (V.str i=V.str j)=decide (i=j) from decide_eq_decide.mpr ⟨fun z=>by cases z;rfl,fun z=>by rw[z]⟩];exact q⟩
theorem r_ret {te:TE} (q:te σ H D.rt):tRet te D σ H:=q
theorem r_next (q:D.nx σ H):tNext D σ H:=q
theorem r_drop {te:TE} (q:te σ H fun _ H1=>D.nx σ H1):jjt te D σ H:=q
theorem r_not {t:TT}{R:Bool→Hp→Prop} (q:t σ H fun c H1=>R (!c) H1):tNot t σ H R:=q
theorem jgn {te:TE}{R:Bool→Hp→Prop} (q:te σ H fun x H'=>∃ k,TruV K x H' k∧R k H'):tTru K te σ H R:=q
theorem r_blT {b:Bool}{R:Bool→Prop} (q:R b):∃ k,TruV K (.bl b) H k∧R k:=⟨b,rfl,q⟩
theorem r_lstT {p:Addr}{xs:List V}{R:Bool→Prop} (h:SqL K H p xs) (q:R (!xs.isEmpty)):∃ k,TruV K (.ref p) H k∧R k:=⟨_,.inl ⟨xs,h,rfl⟩,q⟩
theorem r_and {t u:TT}{R:Bool→Hp→Prop} (q:t σ H fun c H1=>if c=true then u σ H1 R else R false H1):tAnd t u σ H R:=q
theorem r_or {t u:TT}{R:Bool→Hp→Prop} (q:t σ H fun c H1=>if c=true then R true H1 else u σ H1 R):tOr t u σ H R:=q
theorem r_andV {ta tb:TE} (q:ta σ H fun x H1=>∃ c,x=.bl c∧if c=true then tb σ H1 Q else Q (.bl false) H1):tAndV ta tb σ H Q:=q
theorem r_notV {ta:TE} (q:ta σ H fun x H1=>∃ c,x=.bl c∧Q (.bl (!c)) H1):tNotV ta σ H Q:=q
theorem r_ifE {t:TT}{ta tb:TE} (q:t σ H fun c H1=>if c=true then ta σ H1 Q else tb σ H1 Q):tIf t ta tb σ H Q:=q
theorem r_un {r:V→Hp→VK→Prop}{ta:TE} (q:ta σ H fun x H1=>r x H1 Q):tUn r ta σ H Q:=q
theorem r_rU {g:Int→V}{i:Int} (q:Q (g i) H):rU g (.int i) H Q:=⟨i,rfl,q⟩
theorem r_call {sp:Sp}{dvs:List V}{E:XK}{t:TA} (q:t σ H fun vs H1=>sp (vs++dvs) H1 Q E):jk2 sp dvs E t σ H Q:=q
theorem r_cb {r:List V→Hp→VK→Prop}{t:TA} (q:t σ H fun vs H1=>r vs H1 Q):tCB r t σ H Q:=q
theorem r_cons {ta:TE}{tr:TA}{R:List V→Hp→Prop} (q:ta σ H fun x H1=>tr σ H1 fun xs H2=>R (x :: xs) H2):tCons ta tr σ H R:=q
theorem r_nil {R:List V→Hp→Prop} (q:R [] H):tNil σ H R:=q
theorem r_meth {C:Addr}{m:Str}{sp:Sp}{dvs:List V}{E:XK}{ta:TE}{t:TA} (q:ta σ H fun x H1=>∃ a dx fs,x=.ref a∧H1 a=some (.ins C dx fs)∧fs.lookup m=none∧t σ H1 fun vs H2=>sp (x :: (vs++dvs)) H2 Q E):tMeth C m sp dvs E ta t σ H Q:=q
theorem r_self {C:Addr}{m:Str}{sp:Sp}{dvs:List V}{E:XK}{t:TA}{a dx:Addr}{fs:List (Str × V)} (h:H a=some (.ins C dx fs)) (l:fs.lookup m=none) (q:t σ H fun vs H2=>sp (.ref a :: (vs++dvs)) H2 Q E) :
  ∃ b dx fs,V.ref a=.ref b∧H b=some (.ins C dx fs)∧fs.lookup m=none∧t σ H fun vs H2=>sp (.ref a :: (vs++dvs)) H2 Q E:=⟨a,dx,fs,rfl,h,l,q⟩
theorem r_make {C:Addr}{sp:Sp}{dvs:List V}{E:XK}{t:TA} (q:t σ H fun vs H1=>∀ x dx,H1 x=none→H1 dx=none→dx≠x →
 sp (.ref x :: (vs++dvs)) (upd (upd H1 dx (.own x)) x (.ins C dx [])) (fun v H2=>v=.non∧Q (.ref x) H2) E):tMake C sp dvs E t σ H Q:=q
def rFld (K:PySem.W.Frag) (f:Str):V→Hp→VK→Prop:=fun x H Q=>∃ a C dx fs v,x=.ref a∧H a=some (.ins C dx fs)∧Cls K C∧NoAttr K C f∧fs.lookup f=some v∧Q v H
theorem r_fldK {ta:TE}{f:Str} (q:ta σ H fun x H1=>rFld K f x H1 Q):tFld K ta f σ H Q:=q
theorem r_fat {f:Str}{a C dx:Addr}{fs:List (Str × V)}{v:V} (h:H a=some (.ins C dx fs)) (c:Cls K C) (n:NoAttr K C f) (l:fs.lookup f=some v) (q:Q v H):rFld K f (.ref a) H Q:=⟨a,C,dx,fs,v,rfl,h,c,n,l,q⟩
def rSat (K:PySem.W.Frag) (f:Str) (y:V):V→Hp→(Hp→Prop)→Prop:=fun x H Q=>∃ a C dx fs,x=.ref a∧H a=some (.ins C dx fs)∧Cls K C∧NoAttr K C f∧fs.length < 1000∧Q (upd H a (.ins C dx (putF f y fs)))
theorem r_sfld {ta tv:TE}{f:Str} (q:tv σ H fun y H1=>ta σ H1 fun x H2=>rSat K f y x H2 fun H3=>D.nx σ H3):sFld K ta tv f D σ H:=q
theorem jkx {f:Str}{y:V}{a C dx:Addr}{fs:List (Str × V)}{R:Hp→Prop} (h:H a=some (.ins C dx fs)) (c:Cls K C) (n:NoAttr K C f) (l:fs.length < 1000) (q:∀ H',H' a=some (.ins C dx (putF f y fs))→But a H H'→R H'):rSat K f y (.ref a) H R :=
 ⟨a,C,dx,fs,rfl,h,c,n,l,q _ j04 j4k⟩
theorem jds {n:Nat} (h:Nat.ble (n+1) 1000=true):n < 1000:=Nat.le_of_ble_eq_true h
def rNewT (xs:List V) (H:Hp) (Q:VK):Prop:=xs.length≤sizeLine∧∀ p,H p=none→Q (.ref p) (upd H p (.tup xs))
def rNewL (xs:List V) (H:Hp) (Q:VK):Prop:=xs.length≤sizeLine∧∀ p,H p=none→Q (.ref p) (upd H p (.lst xs))
theorem r_tup {t:TA} (q:t σ H fun xs H1=>rNewT xs H1 Q):tTup t σ H Q:=q
theorem r_lst {t:TA} (q:t σ H fun xs H1=>rNewL xs H1 Q):tLst t σ H Q:=q
theorem r_newT {xs:List V} (c:Nat.ble xs.length 1000=true) (q:∀ p H',H p=none→H' p=some (.tup xs)→Ext H H'→Q (.ref p) H'):rNewT xs H Q :=
 ⟨Nat.le_trans (Nat.le_of_ble_eq_true c) (by rw[sizeLine_eq];decide),fun p n=>q p _ n j04 (j0g n)⟩
theorem r_newL {xs:List V} (c:Nat.ble xs.length 1000=true) (q:∀ p H',H p=none→H' p=some (.lst xs)→Ext H H'→Q (.ref p) H'):rNewL xs H Q :=
 ⟨Nat.le_trans (Nat.le_of_ble_eq_true c) (by rw[sizeLine_eq];decide),fun p n=>q p _ n j04 (j0g n)⟩
theorem r_for {wi:TI}{g:TG}{tb:TS} (q:wi σ H fun J H1=>∃ W:Nat→Nat→St→Hp→Prop,(∃ m,W 0 m σ H1)∧∀ i m σ H,W i m σ H →
 (J.stop i H∧D.nx σ H)∨(J.go i H∧∃ N:St→Hp→Prop,(∀ σ' H',N σ' H'→∃ m',m' < m∧W (i+1) m' σ' H')∧∀ x H',J.yld i H x H'→g x σ H' fun σ2 H2=>tb { D with nx:=N,ct:=N,bk:=D.nx } σ2 H2)):tFor wi g tb D σ H:=q
theorem r_rng1 {ta:TA}{R:It→Hp→Prop} (q:ta σ H fun vs H1=>∃ j:Int,vs=[.int j]∧-(2 ^ 62)≤j∧j < 2 ^ 62∧R (Itr 0 j.toNat) H1):iRng1 ta σ H R:=q
theorem jgo {tl:TE}{R:It→Hp→Prop} (q:tl σ H fun x H1=>∃ a,x=.ref a∧(∃ xs,SqL K H1 a xs)∧R (Itl K a) H1):iList K tl σ H R:=q
theorem r_bm {T:String}{r:V→List V→Hp→VK→Prop}{to:TE}{t:TA} (q:to σ H fun x H1=>tyV K T x H1∧t σ H1 fun vs H2=>r x vs H2 Q):tBM K T r to t σ H Q:=q
theorem r_tyl {p:Addr}{xs:List V}{R:Prop} (h:H p=some (.lst xs)) (q:R):tyV K "list" (.ref p) H∧R:=⟨.inl ⟨rfl,xs,SqL.of h⟩,q⟩
theorem j2r {p:Addr}{xs:List V}{y:V} (h:H p=some (.lst xs)) (l:xs.length < 1000000) (q:∀ H',H' p=some (.lst (xs++[y]))→But p H H'→Q .non H'):jca (.ref p) [y] H Q :=
 ⟨p,xs,y,rfl,rfl,h,Nat.lt_of_lt_of_le l (by rw[sizeLine_eq];decide),q _ j04 j4k⟩
theorem r_gnil {R:St→Hp→Prop} (q:R σ H):gNil [] σ H R:=⟨rfl,q⟩
theorem jgp {t:TG}{u:TGs}{v:V}{r:List V}{R:St→Hp→Prop} (q:t v σ H fun σ' H'=>u r σ' H' R):jj9 t u (v :: r) σ H R:=⟨v,r,rfl,q⟩
theorem jgq {n:Nat}{t:TGs}{a:Addr}{xs:List V}{R:St→Hp→Prop} (h:H a=some (.tup xs)) (l:xs.length=n) (q:t xs σ H R):gTup K n t (.ref a) σ H R:=⟨a,xs,rfl,SqT.of h,l,q⟩
theorem r_abs {i:Int} (q:Q (.int (i.natAbs:Int)) H):rAbs [.int i] H Q:=⟨i,rfl,q⟩
theorem r_isN {x:V} (q:Q (.bl (decide (x=.non))) H):rIsNo x .non H Q:=⟨rfl,q⟩
theorem r_notN {x:V} (q:Q (.bl (!decide (x=.non))) H):jgj x .non H Q:=⟨rfl,q⟩
theorem r_isI {x:V}{k:Kd} (h:HasK H x k) (q:Q (.bl (k == .int || k == .bl)) H):jfk K [x,.ty "int"] H Q:=⟨x,_,_,.inl ⟨_,rfl,jge k⟩,h.tyOf,q⟩
theorem jfl {x:V}{k:Kd} (h:HasK H x k) (q:Q (.bl (k == .bl)) H):jfk K [x,.ty "bool"] H Q:=⟨x,_,_,.inl ⟨_,rfl,jdq k⟩,h.tyOf,q⟩
theorem jl3 {x:V}{k:Kd} (h:HasK H x k) (q:Q (.bl (k == .str)) H):jfk K [x,.ty "str"] H Q:=⟨x,_,_,.inl ⟨_,rfl,jgf k⟩,h.tyOf,q⟩
theorem r_isT {x:V}{k:Kd} (h:HasK H x k) (q:Q (.bl (k == .tup)) H):jfk K [x,.ty "tuple"] H Q:=⟨x,_,_,.inl ⟨_,rfl,jas k⟩,h.tyOf,q⟩
theorem jcc {x:V}{k:Kd} (h:HasK H x k) (q:Q (.bl (k == .lst)) H):jfk K [x,.ty "list"] H Q:=⟨x,_,_,.inl ⟨_,rfl,jdr k⟩,h.tyOf,q⟩
theorem r_lenS {p:Addr}{xs:List V} (h:SqL K H p xs) (q:Q (.int xs.length) H):rLen K [.ref p] H Q:=⟨_,_,rfl,.inl ⟨xs,h,rfl⟩,q⟩
theorem r_lenL {p:Addr}{xs:List V} (h:H p=some (.lst xs)) (q:Q (.int xs.length) H):rLen K [.ref p] H Q:=⟨_,_,rfl,.inl ⟨xs,SqL.of h,rfl⟩,q⟩
theorem r_lenT {p:Addr}{xs:List V} (h:H p=some (.tup xs)) (q:Q (.int xs.length) H):rLen K [.ref p] H Q:=⟨_,_,rfl,.inr ⟨xs,SqT.of h,rfl⟩,q⟩
theorem r_ixS {p:Addr}{xs:List V}{i:Int}{v:V} (h:SqL K H p xs) (e:atI xs i=some v) (q:Q v H):rIx K (.ref p) (.int i) H Q:=.inl ⟨p,xs,i,v,rfl,rfl,h,e,q⟩
theorem jat {p:Addr}{xs:List V}{i:Int}{v:V} (h:H p=some (.lst xs)) (e:atI xs i=some v) (q:Q v H):rIx K (.ref p) (.int i) H Q:=.inl ⟨p,xs,i,v,rfl,rfl,SqL.of h,e,q⟩
theorem j5c {p:Addr}{xs:List V}{i:Int}{v:V} (h:H p=some (.tup xs)) (e:atI xs i=some v) (q:Q v H):rIx K (.ref p) (.int i) H Q:=.inr (.inl ⟨p,xs,i,v,rfl,rfl,SqT.of h,e,q⟩)
theorem j3k {α:Type}{xs:List α}{i:Int}{v:α} (h0:0≤i) (h:xs[i.toNat]?=some v):atI xs i=some v:=by
 have:=jfy h
 rwa [Int.toNat_of_nonneg h0] at this
theorem jcd {p:Addr}{xs:List V} (h:H p=some (.tup xs)) (q:∀ l H',H l=none→H' l=some (.lst xs)→Ext H H'→Q (.ref l) H'):jkj K [.ref p] H Q:=⟨p,xs,rfl,.inr (SqT.of h),fun l n=>q l _ n j04 (j0g n)⟩
theorem j6m {p:Addr}{xs:List V} (h:H p=some (.lst xs)) (q:∀ l H',H l=none→H' l=some (.lst xs)→Ext H H'→Q (.ref l) H'):jkj K [.ref p] H Q:=⟨p,xs,rfl,.inl (SqL.of h),fun l n=>q l _ n j04 (j0g n)⟩
theorem j1c {p:Addr}{xs:List V} (h:H p=some (.lst xs)) (q:∀ l H',H l=none→H' l=some (.tup xs)→Ext H H'→Q (.ref l) H'):jgh K [.ref p] H Q:=⟨p,xs,rfl,.inl ⟨SqL.of h,fun l n=>q l _ n j04 (j0g n)⟩⟩
theorem r_sum {p:Addr}{ns:List Int} (h:H p=some (.lst (ns.map V.int))) (q:Q (.int ns.sum) H):rSum K [.ref p] H Q:=⟨p,ns,rfl,SqL.of h,q⟩
theorem j8m {p:Addr}{x:V}{xs:List V} (h:H p=some (.lst xs)) (fx:j5f x=true) (fl:xs.all j5f=true) (q:Q (.bl (!inV x xs)) H):rInU K true x (.ref p) H Q:=⟨p,xs,rfl,.inl (SqL.of h),fx,fl,q⟩
end
theorem iteD {c A B:Prop} [Decidable c] (h1:c→A) (h2:¬ c→B):if decide c=true then A else B:=by
 by_cases h:c
 ·rw[decide_eq_true h];exact iteT (h1 h)
 ·rw[decide_eq_false h];exact iteF (h2 h)
theorem iteN {c A B:Prop} [Decidable c] (h1:¬ c→A) (h2:c→B):if (!decide c)=true then A else B:=by
 by_cases h:c
 ·rw[decide_eq_true h];exact iteF (h2 h)
 ·rw[decide_eq_false h];exact iteT (h1 h)
abbrev NoX:Value→Shared→Prop:=fun _ _=>False
def j7j:List TT→TT
 | []=>fun _ H Q=>Q true H
 | t :: r=>fun σ H Q=>t σ H fun b H1=>if b=true then j7j r σ H1 Q else Q false H1
def PTs (X:Cx):List Expr→List TT→Prop
 | [],[]=>True
 | e :: es,t :: ts=>PT X e t∧PTs X es ts
 | _,_=>False
def j28 (env:Env) (ifs:List Expr) (b:Bool):Sem Bool:=forIn ifs b fun c r=>if r=true then do let ok ← isTrue c env (eval c env);pure (ForInStep.yield ok) else pure (ForInStep.yield r)
theorem j6n {M:Model}{A:Around}{E:Value→Shared→Prop}{s:Shared}{env:Env}{Q:Bool→Shared→Prop} (h:Q false s):∀ ifs:List Expr,wpAny M A (j28 env ifs false) Q E s
 | []=>wpAny_pure h
 | c :: r=>by
  unfold j28
  rw[List.forIn_cons]
  simp only[Bool.false_eq_true,if_false]
  exact wpAny_bind (wpAny_pure (j6n h r))
theorem j8n {X:Cx}{pins:List (Addr × Obj)}{σ:St}{Q:Bool→Hp→Prop}:∀ (ifs:List Expr) (ts:List TT) (s:Shared) (H:Hp),PTs X ifs ts→Inv X pins σ H s→j7j ts σ H Q→wpAny (model X.prog X.w) X.A (j28 X.env ifs true) (TP X pins σ Q) X.xe s
 | [],[],s,H,_,I,h=>wpAny_pure ⟨H,I,h⟩
 | [],_ :: _,_,_,p,_,_=>p.elim
 | _ :: _,[],_,_,p,_,_=>p.elim
 | c :: r,t :: ts,s,H,p,I,h=>by
  unfold j28
  rw[List.forIn_cons]
  simp only[if_true]
  refine wpAny_bind (wpAny_bind (thn (p.1 pins s σ H _ I h) fun b s1 ⟨H1,I1,q1⟩=>wpAny_pure ?_))
  cases b with
  | true=>exact j8n r ts s1 H1 p.2 I1 (by simpa using q1)
  | false=>exact j6n ⟨H1,I1,by simpa using q1⟩ r
section
variable {prog:Program}{w:World}{A:Around}{R:Result→Shared→Prop}
theorem jau {elt tg iter:Expr}{ifs:List Expr}{scope:Scope}{pos:Pos}{it acc:Value}{env:Env} (J:Nat→Shared→Prop)
  (turn:∀ n s,J n s→wpAny (model prog w) A (pyNext it) (fun r s1=>match r with
   | none=>R (.ok .next) s1
   | some v=>wpAny (model prog w) A (letOwnedTupleGo tg it v) (fun _ s2=>wpAny (model prog w) A (assign tg env v) (fun _ s3=>wpAny (model prog w) A (j28 env ifs true) (fun ok s4 =>
     if ok=true then wpAny (model prog w) A (eval elt env) (fun x s5=>wpAny (model prog w) A (call (.builtin "list.append") [acc,x]) (fun _ s6=>∃ m,m < n∧J m s6) NoX s5) NoX s4
     else ∃ m,m < n∧J m s4) NoX s3) NoX s2) NoX s1) NoX s) (n:Nat) {s:Shared} (h:J n s) :
  codeAny (model prog w) A (.compLoop (.ListComp elt [⟨tg,iter,ifs,0⟩] scope pos) 0 it acc env) R s:=by
 refine codeAny_loop rfl J (fun n s hJ=>?_) n h
 show wpAny _ A ((compTurn (.ListComp elt [⟨tg,iter,ifs,0⟩] scope pos) 0 it acc env).onRaise _) _ _ s
 refine wpAny_noted ?_
 have nx:∀ {E:Value→Shared→Prop} (e:Value) (s:Shared),NoX e s→E e s:=fun _ _ f=>f.elim
 rw[compTurn_list]
 refine wpAny_bind (wpAny_standAt (wpAny_bind (wpAny_mono (turn n s hJ) (fun r s1 q1=>?_) nx)))
 cases r with
 | none=>exact wpAny_pure q1
 | some v =>
  refine wpAny_bind (wpAny_mono q1 (fun _ s2 q2=>?_) nx)
  refine wpAny_bind (wpAny_mono q2 (fun _ s3 q3=>?_) nx)
  refine wpAny_bind (wpAny_mono (show wpAny _ _ (j28 env ifs true) _ _ _ from q3) (fun ok s4 q4=>?_) nx)
  cases ok with
  | false=>exact wpAny_pure ⟨rfl,q4⟩
  | true =>
   refine wpAny_bind (wpAny_bind (wpAny_mono q4 (fun x s5 q5=>?_) nx))
   exact wpAny_bind (wpAny_mono q5 (fun _ s6 q6=>wpAny_pure (wpAny_pure ⟨rfl,q6⟩)) nx)
end
def j2k (cells:List (Str × Addr)):List (Str × NameKind)→List (Str × Addr)→Option (List (Str × Addr))
 | [],cs=>some cs
 | (n,k) :: r,cs=>if (k == .free)=true then (match cells.lookup n with | some a=>j2k cells r ((n,a) :: cs) | none=>none) else j2k cells r cs
theorem j5n {env:Env}:∀ (names:List (Str × NameKind)) (cs cl:List (Str × Addr)),j2k env.cells names cs=some cl →
  (forIn names cs fun x r=>match x with | (name,kind)=>if (kind == .free)=true then do let a ← cellOf env name;pure (ForInStep.yield ((name,a) :: r)) else pure (ForInStep.yield r):Sem (List (Str × Addr)))=pure cl
 | [],cs,cl,h=>by
  cases h
  rfl
 | (n,k) :: r,cs,cl,h=>by
  rw[List.forIn_cons]
  unfold j2k at h
  by_cases hk:(k == NameKind.free)=true
  ·rw[if_pos hk] at h
   dsimp only
   rw[if_pos hk]
   unfold cellOf
   cases e:env.cells.lookup n with
   | none=>rw[e] at h;cases h
   | some a =>
    rw[e] at h
    exact j5n r _ cl h
  ·rw[if_neg hk] at h
   dsimp only
   rw[if_neg hk]
   exact j5n r cs cl h
theorem j1d {scope:Scope}{env:Env}{cl:List (Str × Addr)} (h:j2k env.cells scope.names []=some cl):closureFor scope env=pure cl:=by
 have e:closureFor scope env=((forIn scope.names ([]:List (Str × Addr)) fun x r=>match x with | (name,kind)=>if (kind == .free)=true then do let a ← cellOf env name;pure (ForInStep.yield ((name,a) :: r)) else pure (ForInStep.yield r):Sem (List (Str × Addr))) >>= fun cs=>pure cs):=by
  first | rfl | (unfold closureFor;rfl)
 rw[e,j5n _ _ _ h]
 rfl
theorem j2s {cells:List (Str × Addr)}:∀ (names:List (Str × NameKind)) (cs cl:List (Str × Addr)),j2k cells names cs=some cl→(∀ x c,cs.lookup x=some c→cells.lookup x=some c)→∀ x c,cl.lookup x=some c→cells.lookup x=some c
 | [],cs,cl,h,p=>by cases h;exact p
 | (n,k) :: r,cs,cl,h,p=>by
  unfold j2k at h
  split at h
  ·split at h
   ·rename_i a e
    refine j2s r _ cl h fun x c q=>?_
    rw[List.lookup_cons] at q
    by_cases hx:(x == n)=true
    ·rw[hx] at q
     have:x=n:=by simpa using hx
     subst this
     cases q
     exact e
    ·have hx':(x == n)=false:=by simpa using hx
     rw[hx'] at q
     exact p x c q
   ·cases h
  ·exact j2s r cs cl h p
theorem j29 {cells:List (Str × Addr)}:∀ (names:List (Str × NameKind)) (cs cl:List (Str × Addr)),j2k cells names cs=some cl→∀ x,((∃ c,cs.lookup x=some c)∨(x,NameKind.free)∈names)→∃ c,cl.lookup x=some c
 | [],cs,cl,h,x,p=>by
  cases h
  rcases p with p | p
  ·exact p
  ·simp at p
 | (n,k) :: r,cs,cl,h,x,p=>by
  unfold j2k at h
  split at h
  ·split at h
   ·rename_i a e
    refine j29 r _ cl h x ?_
    by_cases hx:x=n
    ·exact .inl ⟨a,by rw[List.lookup_cons,hx];simp⟩
    ·have hx':(x == n)=false:=by simpa using hx
     rcases p with⟨c,p⟩ | p
     ·exact .inl ⟨c,by rw[List.lookup_cons,hx'];exact p⟩
     ·rcases List.mem_cons.mp p with q | q
      ·cases q;exact absurd rfl hx
      ·exact .inr q
   ·cases h
  ·rename_i hk
   refine j29 r _ cl h x ?_
   rcases p with p | p
   ·exact .inl p
   ·rcases List.mem_cons.mp p with q | q
    ·cases q;exact absurd rfl hk
    ·exact .inr q
theorem j3l {scope:Scope}{env:Env} (hc:∀ y∈scope.names,y.2≠.cell) {x:Str} (h:(relabel scope env).names.lookup x=some .cell∨(relabel scope env).names.lookup x=some .free):(x,NameKind.free)∈scope.names:=by
 have key:∀ k,(k=.cell∨k=.free)→(relabel scope env).names.lookup x=some k→(x,NameKind.free)∈scope.names:=fun k hk e=>by
  have m:=PySem.mem_of_lookup e
  obtain⟨⟨n,k'⟩,hm,e2⟩:=List.mem_map.mp m
  dsimp only at e2
  split at e2
  ·rename_i q
   cases e2
   have:k'=.free:=by
    have:=(Bool.and_eq_true_iff.mp (Bool.and_eq_true_iff.mp q).1).1
    simpa using this
   subst this
   exact hm
  ·cases e2
   rcases hk with rfl | rfl
   ·exact absurd rfl (hc _ hm)
   ·exact hm
 exact h.elim (key _ (.inl rfl)) (key _ (.inr rfl))
def j18 (X:Cx) (pins:List (Addr × Obj)) (N:List Str) (scope:Scope) (cl:List (Str × Addr)) (fp:List Addr) (s:Shared) (H:Hp):Cx where
 prog:=X.prog
 w:=X.w
 K:=X.K
 mg:=X.mg
 base:=X.base
 A:=X.A
 N:=N
 s₀:=s
 H₀:=H
 env:=compEnvC scope cl s.heap.objs.size X.env
 outer:=X.stack
 stack:=X.stack
 ex:=fp
 fn:=fun _=>false
 calm:=X.calm
 pn:=X.pn++pins
 xe:=NoX
def Frees (X:Cx) (sc:Scope):List Str→List Nat→Prop
 | [],[]=>True
 | y :: ys,j :: js=>(X.N[j]?=some y∧(X.env.kindOf y=some .cell∨X.env.kindOf y=some .free)∧(sc.names.lookup y=some .cell∨sc.names.lookup y=some .free))∧Frees X sc ys js
 | _,_=>False
theorem Frees.get {X:Cx}{sc:Scope}:∀ {ys:List Str}{js:List Nat}{i:Nat}{y:Str},Frees X sc ys js→ys[i]?=some y→∃ j,js[i]?=some j∧X.N[j]?=some y∧(X.env.kindOf y=some .cell∨X.env.kindOf y=some .free)∧(sc.names.lookup y=some .cell∨sc.names.lookup y=some .free)
 | [],_,_,_,_,e=>by simp at e
 | _ :: _,[],_,_,h,_=>h.elim
 | y :: ys,j :: js,0,z,h,e=>by
  simp at e
  subst e
  exact⟨j,rfl,h.1⟩
 | y :: ys,j :: js,i+1,z,h,e=>Frees.get (ys:=ys) (js:=js) (i:=i) h.2 (by simpa using e)
theorem Frees.len {X:Cx}{sc:Scope}:∀ {ys:List Str}{js:List Nat},Frees X sc ys js→ys.length=js.length
 | [],[],_=>rfl
 | [],_ :: _,h=>h.elim
 | _ :: _,[],h=>h.elim
 | _ :: ys,_ :: js,h=>by rw[List.length_cons,List.length_cons,Frees.len h.2]
def j7k (σ:St) (j:Nat):Option V:=match σ[j]? with | some o=>o | none=>none
def cSt (own:List Str) (js:List Nat) (σ:St):St:=own.map (fun _=>none)++js.map (j7k σ)
section
variable {X:Cx}{pins:List (Addr × Obj)}{σ:St}{H:Hp}{s:Shared}
theorem j8o {own fr:List Str}{js:List Nat}{scope:Scope}{cl:List (Str × Addr)}{fp:List Addr}{h':Heap}{tk:Nat} (I:Inv X pins σ H s) (hkind:scope.kind=.function) (hc:∀ y∈scope.names,y.2≠.cell)
  (hcl:j2k X.env.cells scope.names []=some cl) (hF:Frees X (relabel scope X.env) fr js) (hfp:∀ b∈fp,FpOk X pins H b) (hlt:∀ b∈fp,b < s.heap.objs.size)
  (hn:h'.Ns s.heap.objs.size (fun _=>none)) (hk:∀ b o,s.heap.get? b=some o→h'.get? b=some o) :
  Inv (j18 X pins (own++fr) scope cl fp s H) [] (cSt own js σ) H { s with heap:=h',toks:=tk }:=by
 have sub:=j2s _ _ _ hcl (fun _ _ q=>by simp at q)
 have clt:∀ x c,X.env.cells.lookup x=some c→c < s.heap.objs.size:=fun x c e=>by obtain⟨v,q⟩:=I.cell x c e;exact q.lt
 refine⟨⟨I.ok.mod,hkind,I.ok.glob,I.ok.blt,Nat.le_refl _,fun x y c e1 e2=>I.ok.inj x y c (sub _ _ e1) (sub _ _ e2),fun x hx=>?_,(fun x c q=>Bool.noConfusion (show false=true from q)),I.ok.hd,I.ok.frames,.inl rfl,fun b hb=>⟨Nat.ne_of_lt (hlt b hb),fun x c e=>(hfp b hb).2.2.2.2.1 x c (sub x c e)⟩,
  I.bs,Nat.le_trans I.ok.bsz I.sz,fun b o e hb=>?_,fun b hb hq=>?_,I.stack,I.stkFree⟩,rfl,I.bare,Un.kept hk,⟨_,hn,fun i x v e1 e2 e3=>?_⟩,fun x c e=>?_,I.hok.fresh (Nat.le_refl _),fun x c e=>I.freeC x c (sub x c e),fun p hp=>?_,I.hok.kept hk,?_⟩
 ·exact j29 _ _ _ hcl x (.inr (j3l hc hx))
 ·rcases (hfp b hb).2.2.2.1 with q | q
  ·exact I.ok.noex b o e q
  ·exact absurd (Heap.lt_size (I.ok.bs b o e).1) (Nat.not_lt.mpr q)
 ·have:=I.stkSub b hq
  rcases List.mem_cons.mp this with z | z
  ·exact (hfp b hb).2.1 z
  ·exact (hfp b hb).2.2.1 z
 ·have hi:own.length≤i:=by
   refine Nat.le_of_not_lt fun q=>?_
   unfold cSt at e2
   rw[List.getElem?_append_left (by simpa using q),List.getElem?_map] at e2
   cases z:own[i]? with
   | none=>rw[z] at e2;cases e2
   | some y=>rw[z] at e2;cases e2
  have e1':fr[i-own.length]?=some x:=by
   have:(own++fr)[i]?=some x:=e1
   rwa [List.getElem?_append_right hi] at this
  obtain⟨j,hj,nj,kj,lj⟩:=hF.get e1'
  have e2':j7k σ j=some v:=by
   unfold cSt at e2
   rw[List.getElem?_append_right (by simpa using hi),List.length_map,List.getElem?_map,hj] at e2
   exact Option.some.inj e2
  have e4:σ[j]?=some (some v):=by
   unfold j7k at e2'
   split at e2'
   ·rename_i o q;rw[q,e2']
   ·cases e2'
  obtain⟨m,hm,hl⟩:=I.loc
  obtain⟨u,ru,lk⟩:=hl j x v nj e4 (kj.elim (fun q=>.inr (.inl q)) fun q=>.inr (.inr q))
  refine⟨u,ru,.inr ⟨lj,?_⟩⟩
  rcases lk with⟨q,_⟩ | ⟨_,c,ec,ic⟩
  ·rcases kj with k | k <;> (rw[q] at k;cases k)
  ·obtain⟨c',ec'⟩:=j29 _ _ _ hcl x (.inr (j3l hc lj))
   have:=sub _ _ ec'
   rw[ec] at this
   cases this
   exact⟨c,ec',ic.keeps hk⟩
 ·obtain⟨v,q⟩:=I.cell x c (sub x c e)
  exact⟨v,q.keeps hk⟩
 ·have hp':p∈X.pn++pins:=by
   rcases List.mem_append.mp hp with q | q
   ·exact q
   ·simp at q
  obtain⟨q1,q2,q3,q4,q5⟩:=I.pin p hp'
  refine⟨hk _ _ q1,q2,Nat.ne_of_lt (Heap.lt_size q1),fun z=>?_,q5⟩
  rcases List.mem_cons.mp (I.stkSub _ z) with y | y
  ·exact q3 y
  ·exact q4 y
 ·show (cSt own js σ).length=(own++fr).length
  unfold cSt
  rw[List.length_append,List.length_append,List.length_map,List.length_map,hF.len]
theorem jav {N:List Str}{scope:Scope}{cl:List (Str × Addr)}{fp:List Addr}{σ':St}{H':Hp}{s':Shared}{ps:List (Addr × Obj)} (I:Inv X pins σ H s) (hfp:∀ b∈fp,FpOk X pins H b)
  (J:Inv (j18 X pins N scope cl fp s H) ps σ' H' s'):Inv X pins σ H' s':=by
 refine I.call' (ch:=fp) J.os J.base J.hok J.bare fun b hb=>?_
 obtain⟨_,f1,_,f3,f4,f5⟩:=hfp b hb
 exact⟨f3,f1,f4,f5⟩
end
def accO (a:Addr) (ys:List V):HO:=.ext fun h=>ys.length≤sizeLine∧∃ (its:List Value) (n:Nat),Vals ys its∧h.get? a=some { cls:=.type "list",data:=.seq its.toArray n }
theorem jgr {P:Program}{w:World}{H:Hp}{h:Heap}{a:Addr}{ys:List V} (o:ObjOk P w H h a (.lst ys)):ObjOk P w H h a (accO a ys):=by
 obtain⟨z,its,n,r,e⟩:=o
 exact⟨⟨z,its,n,r,e⟩,⟨_,e⟩,fun h1 h2 ⟨z,its,n,r,e⟩ k=>⟨z,its,n,r,k _ e⟩⟩
theorem jgs {P:Program}{w:World}{H:Hp}{h:Heap}{a:Addr}{ys:List V} (o:ObjOk P w H h a (accO a ys)):ObjOk P w H h a (.lst ys):=by
 obtain⟨⟨z,its,n,r,e⟩,_⟩:=o
 exact⟨z,its,n,r,e⟩
def jgt:HO→Bool
 | .lst _=>true | .ext _=>true | _=>false
theorem Inv.retrack {X:Cx}{pins:List (Addr × Obj)}{σ:St}{H:Hp}{s:Shared}{a:Addr}{o o':HO} (I:Inv X pins σ H s) (h:H a=some o) (hp:jgt o=true) (new:∀ H',ObjOk X.prog X.w H' s.heap a o'):Inv X pins σ (upd H a o') s:=by
 have ne:∀ {b:Addr}{u:HO},H b=some u→jgt u=false→b≠a:=fun hb hu z=>by subst z;rw[h] at hb;cases hb;rw[hp] at hu;cases hu
 have I':=I.un (h':=s.heap) (t':=s.toks) (H':=upd H a o') ⟨fun _ _ e _ _ _=>e,fun b u e _ _ _=>⟨u.slots,e⟩,fun b u _ n _=>by rw[j08 (fun z=>by subst z;rw[h] at n;cases n)];exact n,fun b u e _=>⟨u,e⟩,
  fun b xs e=>by rw[j08 (ne e rfl)];exact e,fun b ob u e=>by rw[j08 (ne e rfl)];exact e,fun b ps e=>⟨#[],by rw[j08 (ne e rfl),e];simp⟩⟩ (fun b u e=>by
   by_cases hb:b=a
   ·subst hb;rw[j04] at e;cases e;exact new _
   ·rw[j08 hb] at e
    exact (I.hok b u e).stay (fun _ _ _ q=>q) (fun c q=>by rw[j08 (ne q rfl)];exact q) fun c xs q=>by rw[j08 (ne q rfl)];exact q)
 exact I'
theorem jgu {H:Hp}{a:Addr}{o o':HO} (h:H a=some o) (hd:jgc o=false):Kp H (upd H a o'):=fun b u e d=>by
 rw[j08 (fun z=>by subst z;rw[h] at e;cases e;rw[hd] at d;cases d)];exact e
def ja9 (J:It) (g:TG) (ts:List TT) (te:TE) (acc:Addr) (σ0:St) (H0:Hp) (Q:Hp→Prop):Prop :=
 ∃ W:Nat→Nat→St→List V→Hp→Prop,(∃ m,W 0 m σ0 [] (upd H0 acc (accO acc [])))∧∀ i m σ ys H,W i m σ ys H→H acc=some (accO acc ys) →
  (J.stop i H∧Q (upd H acc (.lst ys)))∨(J.go i H∧∀ x H',J.yld i H x H'→g x σ H' fun σ2 H2=>j7j ts σ2 H2 fun b H3 =>
   if b=true then te σ2 H3 fun y H4=>H4 acc=some (accO acc ys)∧ys.length < sizeLine∧∃ m',m' < m∧W (i+1) m' σ2 (ys++[y]) (upd H4 acc (accO acc (ys++[y])))
   else H3 acc=some (accO acc ys)∧∃ m',m' < m∧W (i+1) m' σ2 ys H3)
abbrev CA (α:Type):=List (Addr × Obj)→List Addr→Shared→Hp→α
def jl7 (wi:TI) (own:List Str) (js:List Nat) (g:CA TG) (ts:CA (List TT)) (te:CA TE):TE:=fun σ H Q=>wi σ H fun J H1=>∀ acc,H1 acc=none→∀ pins fp s Hc,ja9 J (g pins fp s Hc) (ts pins fp s Hc) (te pins fp s Hc) acc (cSt own js σ) H1 fun H'=>Q (.ref acc) H'
structure CompOk (X:Cx) (scope:Scope) (cl:List (Str × Addr)) (own fr:List Str) (js:List Nat):Prop where
 kind:scope.kind=.function
 nc:∀ y∈scope.names,y.2≠.cell
 nl:∀ y∈scope.names,y.2=.local→scope.names.lookup y.1=some .local
 clos:j2k X.env.cells scope.names []=some cl
 frees:Frees X (relabel scope X.env) fr js
section
variable {X:Cx}{pins:List (Addr × Obj)}{σ:St}{H:Hp}{s:Shared}
theorem j6o {elt tg iter:Expr}{ifs:List Expr}{scope:Scope}{pos:Pos}{cl:List (Str × Addr)}{own fr:List Str}{js:List Nat}{g:CA TG}{ts:CA (List TT)}{te:CA TE}{R:Hp→Addr→Prop}{RR:Value→Addr→Result→Shared→Prop}{it:Addr}{fp:List Addr}{tn:Nat→Heap→Prop}{J:It}{E:Value→Shared→Prop}
  (O:CompOk X scope cl own fr js) (hcalm:X.calm=true)
  (hb:∀ pins fp s Hc,PG (j18 X pins (own++fr) scope cl fp s Hc) tg (g pins fp s Hc)∧PTs (j18 X pins (own++fr) scope cl fp s Hc) ifs (ts pins fp s Hc)∧PE (j18 X pins (own++fr) scope cl fp s Hc) elt (te pins fp s Hc))
  (I:Inv X pins σ H s) (T:Turn X.prog X.w X.K tg J fp it tn) (t0:tn 0 s.heap) (hf:∀ b∈fp,FpOk X pins H b)
  (h:∀ acc,H acc=none→∀ pins fp s Hc,ja9 J (g pins fp s Hc) (ts pins fp s Hc) (te pins fp s Hc) acc (cSt own js σ) H fun H'=>R H' acc)
  (fin:∀ acc C H' s' m,Inv X pins σ H' s'→R H' acc→s'.heap.Ns C m→FpOk X pins H' C→RR (.ref acc) C (.ok .next) s') :
  wpAny (model X.prog X.w) X.A (newList []) (fun acc s3=>wpAny (model X.prog X.w) X.A (newFunctionEnv scope X.env.globals cl [] X.env.qual none .none (some X.env)) (fun cenv s4 =>
   codeAny (model X.prog X.w) X.A (.compStart (.ListComp elt [⟨tg,iter,ifs,0⟩] scope pos) 0 (.ref it) acc { cenv with scope:=relabel scope X.env }) (RR acc cenv.locals) s4) E s3) E s:=by
 have n0:H s.heap.objs.size=none:=I.hok.fresh (Nat.le_refl _)
 have flt:∀ b∈fp,b < s.heap.objs.size:=fun b hb=>by obtain⟨o,e,_⟩:=T.obj 0 _ t0 b hb;exact Heap.lt_size e
 refine wpAny_newList ?_
 have I3:Inv X pins σ (upd H s.heap.objs.size (accO s.heap.objs.size [])) { s with heap:=s.heap.push { cls:=.type "list",data:=.seq ([]:List Value).toArray } } :=
  I.laid (t':=s.toks) (fun b o e=>Heap.get?_push_of_some _ e) (Nat.le_refl _) (jgr (show ObjOk X.prog X.w _ _ _ (.lst []) from⟨Nat.zero_le _,[],0,.nil,Heap.get?_push_size _ rfl⟩))
 have hf3:∀ b∈fp,FpOk X pins (upd H s.heap.objs.size (accO s.heap.objs.size [])) b:=fun b hb=>⟨by rw[j08 (Nat.ne_of_lt (flt b hb))];exact (hf b hb).1,(hf b hb).2⟩
 have t3:tn 0 (s.heap.push { cls:=.type "list",data:=.seq ([]:List Value).toArray }):=T.keep _ _ _ t0 fun b _ o e=>Heap.get?_push_of_some _ e
 specialize h s.heap.objs.size n0
 generalize hs3:({ s with heap:=s.heap.push { cls:=.type "list",data:=.seq ([]:List Value).toArray } }:Shared)=s3 at I3 ⊢
 have t3':tn 0 s3.heap:=by rw[← hs3];exact t3
 have lt3:∀ b∈fp,b < s3.heap.objs.size:=fun b hb=>by rw[← hs3];exact Nat.lt_of_lt_of_le (flt b hb) (by rw[Heap.size_push];exact Nat.le_succ _)
 generalize hH3:upd H s.heap.objs.size (accO s.heap.objs.size [])=H3 at I3 hf3
 generalize hacc:s.heap.objs.size=acc at *
 refine wpAny_newFunctionEnv O.nc (by intro x hx;simp at hx) (fun h1 hns hsb=>?_) O.kind
 have hk:∀ b o,s3.heap.get? b=some o→h1.get? b=some o:=fun b o e=>(hsb.2 b (Nat.ne_of_lt (Heap.lt_size e))).trans (Heap.get?_push_of_some _ e)
 have Ic:Inv (j18 X pins (own++fr) scope cl fp s3 H3) [] (cSt own js σ) H3 { s3 with heap:=h1,toks:=s3.toks+0 }:=j8o I3 O.kind O.nc O.clos O.frees hf3 lt3 hns hk
 obtain⟨W,⟨m0,w0⟩,turn⟩:=h pins fp s3 H3
 obtain⟨hg,ht,he⟩:=hb pins fp s3 H3
 have stat:∀ {H':Hp}{ps:List (Addr × Obj)},ps=[]→(∀ b∈fp,H' b=none)→∀ b∈fp,FpOk (j18 X pins (own++fr) scope cl fp s3 H3) ps H' b:=fun {H' ps} hps hn b hb=>by
  obtain⟨f0,f1,f2,f3,f4,f5⟩:=hf3 b hb
  refine⟨hn b hb,Nat.ne_of_lt (lt3 b hb),fun z=>?_,.inl hb,fun x c e=>f4 x c (j2s _ _ _ O.clos (fun _ _ q=>by simp at q) x c e),fun p hp=>?_⟩
  ·rcases List.mem_cons.mp (I3.stkSub b z) with q | q
   ·exact f1 q
   ·exact f2 q
  ·subst hps
   rcases List.mem_append.mp hp with q | q
   ·exact f5 p q
   ·simp at q
 have loop:∀ {sx:Shared},Inv (j18 X pins (own++fr) scope cl fp s3 H3) [] (cSt own js σ) H3 sx→tn 0 sx.heap →
   codeAny (model X.prog X.w) X.A (.compLoop (.ListComp elt [⟨tg,iter,ifs,0⟩] scope pos) 0 (.ref it) (.ref acc) (compEnvC scope cl s3.heap.objs.size X.env)) (RR (.ref acc) s3.heap.objs.size) sx:=fun {sx} Jx tx=>by
  refine jau (fun n s'=>∃ i σc ys H',Inv (j18 X pins (own++fr) scope cl fp s3 H3) [] σc H' s'∧tn i s'.heap∧(∀ b∈fp,H' b=none)∧H' acc=some (accO acc ys)∧W i n σc ys H') ?_ m0 ⟨0,_,[],H3,Jx,tx,fun b hb=>(hf3 b hb).1,by rw[← hH3];exact j04,by rw[← hH3];exact w0⟩
  rintro n s4 ⟨i,σ4,ys,H4,I4,t4,fr4,a4,w4⟩
  rcases turn i n σ4 ys H4 w4 a4 with⟨stop,qn⟩ | ⟨go,step⟩
  ·refine thn (T.done (j18 X pins (own++fr) scope cl fp s3 H3) rfl rfl rfl hcalm i [] s4 σ4 H4 NoX I4 (stat rfl fr4) t4 stop) fun r s5 ⟨hr,I5⟩=>?_
   subst hr
   obtain⟨m,hm,_⟩:=id I5.loc
   have IX:=jav I3 hf3 I5
   have IL:=IX.retrack (o':=.lst ys) a4 rfl fun H'=>jgs (H:=H') (by obtain⟨p1,p2,p3⟩:=IX.hok acc _ a4;exact⟨p1,p2,p3⟩)
   refine fin acc s3.heap.objs.size _ s5 m IL qn hm (I3.fpOk (Nat.le_refl _) ?_)
   have c4:H4 s3.heap.objs.size=none:=I5.free
   rw[j08 (fun z=>by rw[z,a4] at c4;cases c4)];exact c4
  ·refine thn (T.item (j18 X pins (own++fr) scope cl fp s3 H3) rfl rfl rfl hcalm i [] s4 σ4 H4 NoX I4 (stat rfl fr4) t4 go) fun r s5 ⟨u,hr,q5⟩=>?_
   subst hr
   refine thn q5 fun _ s6 ⟨x,H6,I6,r6,y6,t6,fr6⟩=>?_
   have I6':=I6.pinned (stat rfl fr6) (T.obj _ _ t6)
   refine thn (hg _ s6 σ4 H6 x u _ I6' r6 (step x H6 y6)) fun _ s7 ⟨σ7,H7,I7,q7⟩=>?_
   refine thn (j8n ifs _ s7 H7 ht I7 q7) fun ok s8 ⟨H8,I8,q8⟩=>?_
   have again:∀ {σ9:St}{H9:Hp}{s9:Shared}{zs:List V}{m:Nat},Inv (j18 X pins (own++fr) scope cl fp s3 H3) ([]++j81 fp s6.heap) σ9 H9 s9→H9 acc=some (accO acc zs)→m < n→W (i+1) m σ9 zs H9 →
     ∃ m,m < n∧∃ i σc ys H',Inv (j18 X pins (own++fr) scope cl fp s3 H3) [] σc H' s9∧tn i s9.heap∧(∀ b∈fp,H' b=none)∧H' acc=some (accO acc ys)∧W i m σc ys H':=fun {σ9 H9 s9 zs m} I9 a9 hm w9=>by
    refine⟨m,hm,i+1,σ9,zs,H9,I9.unpinned,T.keep _ _ _ t6 fun b hb o e=>(I9.pin (b,o) (List.mem_append_right _ (List.mem_append_right _ (j1t hb e)))).1,fun b hb=>?_,a9,w9⟩
    obtain⟨o,e,d⟩:=T.obj _ _ t6 b hb
    exact (I9.pin (b,o) (List.mem_append_right _ (List.mem_append_right _ (j1t hb e)))).2.1
   cases ok with
   | false =>
    obtain⟨a8,m',hm,w8⟩:=(show H8 acc=some (accO acc ys)∧∃ m',m' < n∧W (i+1) m' σ7 ys H8 by simpa using q8)
    exact again I8 a8 hm w8
   | true =>
    have q8':te pins fp s3 H3 σ7 H8 fun y H4=>H4 acc=some (accO acc ys)∧ys.length < sizeLine∧∃ m',m' < n∧W (i+1) m' σ7 (ys++[y]) (upd H4 acc (accO acc (ys++[y]))):=by simpa using q8
    refine thn (he _ s8 σ7 H8 _ I8 q8') fun v s9 ⟨y,H9,I9,r9,a9,hl,m',hm,w9⟩=>?_
    have IL:=I9.retrack (o':=.lst ys) a9 rfl fun H'=>jgs (H:=H') (by obtain⟨p1,p2,p3⟩:=I9.hok acc _ a9;exact⟨p1,p2,p3⟩)
    refine thn (j17 _ s9 σ7 _ (.ref acc) [y] (.ref acc) [v] (fun _ H'=>H'=upd H9 acc (.lst (ys++[y]))) IL rfl (.cons r9 .nil) ⟨acc,ys,y,rfl,rfl,j04,hl,by rw[jc1]⟩) fun _ s10 ⟨_,H10,I10,_,e10⟩=>?_
    subst e10
    have I11:=I10.retrack (o':=accO acc (ys++[y])) j04 rfl fun H'=>jgr (H:=H') (by obtain⟨p1,p2,p3⟩:=I10.hok acc _ j04;exact⟨p1,p2,p3⟩)
    rw[jc1] at I11
    exact again I11 j04 hm w9
 exact codeAny_compStart_list (loop Ic (T.keep _ _ _ t3' fun b _ o e=>hk b o e)) (T.self _ 0 _ _ _ (T.keep _ _ _ t3' fun b _ o e=>hk b o e) (loop Ic (T.keep _ _ _ t3' fun b _ o e=>hk b o e)))
theorem j2g {elt tg iter:Expr}{ifs:List Expr}{scope:Scope}{pos:Pos}{cl:List (Str × Addr)} (own fr:List Str) (js:List Nat) {wi:TI}{g:CA TG}{ts:CA (List TT)}{te:CA TE}
  (hcalm:X.calm=true) (O:CompOk X scope cl own fr js) (hi:PI X tg iter wi)
  (hb:∀ pins fp s Hc,PG (j18 X pins (own++fr) scope cl fp s Hc) tg (g pins fp s Hc)∧PTs (j18 X pins (own++fr) scope cl fp s Hc) ifs (ts pins fp s Hc)∧PE (j18 X pins (own++fr) scope cl fp s Hc) elt (te pins fp s Hc))
  (hs:∀ x,foldedSetIterable iter X.env x=pure x:=by intro _;rfl) :
  PE X (.ListComp elt [⟨tg,iter,ifs,0⟩] scope pos) (jl7 wi own js g ts te):=by
 intro pins s σ H Q I h
 rw[eval_ListComp]
 refine wpAny_comprehension_free (use:=none) rfl hs (j1d O.clos) O.kind O.nl (thn (hi pins s σ H _ I h) fun xv s1 q1=>thn q1 fun itv s2 q2=>?_)
 obtain⟨it,fp,tn,J,H2,rfl,I2,T,t2,f2,q⟩:=q2
 refine j6o (RR:=fun acc C=>compPost (model X.prog X.w) X.A X.xe none (EP X pins σ Q) acc C) O hcalm hb I2 T t2 f2 q fun acc C H' s' m I' r' hm hC=>⟨m,hm,fun h' sb=>?_⟩
 obtain⟨f0,f1,f2,f3,f4,f5⟩:=hC
 exact⟨.ref acc,H',I'.turned (t':=s'.toks) (fun b o hb e=>(sb.2 b hb).trans e) f0 f1 f3 f4 f5,rfl,r'⟩
theorem j0t {i:Nat}{x:Str}{elt tg iter:Expr}{ifs:List Expr}{scope:Scope}{pos pos' spos:Pos}{cl:List (Str × Addr)} (own fr:List Str) (js:List Nat) {wi:TI}{g:CA TG}{ts:CA (List TT)}{te:CA TE}
  (hN:X.N.Nodup) (hix:X.N[i]?=some x) (hx:Loc X.env.scope x) (hcalm:X.calm=true) (O:CompOk X scope cl own fr js) (hi:PI X tg iter wi)
  (hb:∀ pins fp s Hc,PG (j18 X pins (own++fr) scope cl fp s Hc) tg (g pins fp s Hc)∧PTs (j18 X pins (own++fr) scope cl fp s Hc) ifs (ts pins fp s Hc)∧PE (j18 X pins (own++fr) scope cl fp s Hc) elt (te pins fp s Hc))
  (hsw:swapsWith (.ListComp elt [⟨tg,iter,ifs,0⟩] scope pos) (some (.Name x pos')) spos.line X.env=pure true:=by rfl)
  (hs:∀ x,foldedSetIterable iter X.env x=pure x:=by intro _;rfl) (hf:X.fn x=true∨X.env.scope.names.lookup x=some .local:=by first | exact .inl rfl | exact .inr rfl | assumption) :
  PS X (.Assign [.Name x pos'] (.ListComp elt [⟨tg,iter,ifs,0⟩] scope pos) spos) (tAsg (jl7 wi own js g ts te) (ja7 i)):=by
 intro pins s σ H D I h
 rw[exec_Assign_Name_used _ _ _ _ hsw]
 refine wpAny_bind (wpAny_standAt (wpAny_bind ?_))
 show wpAny _ _ (comprehension (.ListComp elt [⟨tg,iter,ifs,0⟩] scope pos) scope X.env (firstIterPos [⟨tg,iter,ifs,0⟩] pos) (newList []) false (eval iter X.env) (some (assign (.Name x pos') X.env)) >>= _) _ _ _
 refine wpAny_bind ?_
 have h':wi σ H fun J H1=>∀ acc,H1 acc=none→∀ pins fp s Hc,ja9 J (g pins fp s Hc) (ts pins fp s Hc) (te pins fp s Hc) acc (cSt own js σ) H1 fun H'=>D.nx (σ.set i (some (.ref acc))) H':=h
 refine wpAny_comprehension_free (use:=some (assign (.Name x pos') X.env)) rfl hs (j1d O.clos) O.kind O.nl (thn (hi pins s σ H _ I h') fun xv s1 q1=>thn q1 fun itv s2 q2=>?_)
 obtain⟨it,fp,tn,J,H2,rfl,I2,T,t2,f2,q⟩:=q2
 refine j6o (RR:=fun acc C=>compPost (model X.prog X.w) X.A X.xe (some (assign (.Name x pos') X.env)) _ acc C) O hcalm hb I2 T t2 f2 q fun acc C H' s' m I' r' hm hC=>?_
 obtain⟨f0,f1,f2,f3,f4,f5⟩:=hC
 obtain⟨oc,es,ep,ho,hd,hr⟩:=id hm
 have IP:Inv X (pins++[(C,oc)]) σ H' s':=I'.pins_of fun p hp=>by
  rcases List.mem_append.mp hp with q | q
  ·exact I'.pin p (List.mem_append_right _ q)
  ·obtain rfl:p=(C,oc):=by simpa using q
   exact⟨ho,f0,f1,f2,fun v z=>by rw[hd] at z;cases z⟩
 refine wpAny_assign_Name (j3q IP hN hix hx (v:=.ref acc) (u:=.ref acc) rfl (fun s'' I''=>?_) hf)
 have hC'':=(I''.pin (C,oc) (List.mem_append_right _ (List.mem_append_right _ (by simp)))).1
 refine⟨m,⟨oc,es,ep,hC'',hd,hr⟩,fun h' sb=>?_⟩
 exact wpAny_pure (wpAny_pure ⟨_,H',(I''.unpinned).turned (t':=s''.toks) (fun b o hb e=>(sb.2 b hb).trans e) f0 f1 f3 f4 f5,r'⟩)
end
section
variable {K:PySem.W.Frag}{ts:List TT}{te:TE}{acc:Addr}{fr:St}{H1:Hp}{R:Hp→Prop}{xs ys:List V}
theorem r_comp {wi:TI}{own:List Str}{js:List Nat}{g:CA TG}{ts:CA (List TT)}{te:CA TE}{σ:St}{H:Hp}{Q:VK} (q:wi σ H fun J H1=>∀ acc,H1 acc=none→∀ pins fp s Hc,ja9 J (g pins fp s Hc) (ts pins fp s Hc) (te pins fp s Hc) acc (cSt own js σ) H1 fun H'=>Q (.ref acc) H'):jl7 wi own js g ts te σ H Q:=q
def j8p (ts:List TT) (te:TE) (Pv:List V→Hp→Prop) (ys:List V) (H:Hp) (σ2:St) (H2:Hp):Prop :=
 ∀ (Y:V→Hp→Prop) (N:Hp→Prop),(∀ y H',Ext H H'→Pv (ys++[y]) H'→Y y H')→(∀ H',Ext H H'→Pv ys H'→N H')→j7j ts σ2 H2 fun b H3=>if b=true then te σ2 H3 Y else N H3
theorem j3x {J:It}{g:TG}{σ0:St} (n:Nat) (hz:n≤1000000) (hn:H1 acc=none) (Sv:St→Prop) (Pv:Nat→List V→Hp→Prop) (s0:Sv σ0) (h0:Pv 0 [] H1) (kp:∀ i ys H H',Kp H H'→Pv i ys H→Pv i ys H')
  (hgo:∀ i H,i < n→Ext H1 H→J.go i H) (hst:∀ H,Ext H1 H→J.stop n H) (len:∀ i ys H,i≤n→Pv i ys H→ys.length≤i)
  (turn:∀ i σ ys H x H' (G:St→Hp→Prop),i < n→Ext H1 H→Sv σ→Pv i ys H→J.yld i H x H'→(∀ σ2 H2,Sv σ2→j8p ts te (Pv (i+1)) ys H σ2 H2→G σ2 H2)→g x σ H' G)
  (fin:∀ ys H,Ext H1 H→H acc=some (.lst ys)→Pv n ys H→R H):ja9 J g ts te acc σ0 H1 R:=by
 have e0:Ext H1 (upd H1 acc (accO acc [])):=j0g hn
 refine⟨fun i m σ ys H=>m=n-i∧i≤n∧Ext H1 H∧Sv σ∧Pv i ys H,⟨n,by omega,Nat.zero_le _,e0,s0,kp _ _ _ _ e0.kp h0⟩,?_⟩
 rintro i m σ ys H ⟨rfl,hi,e,sv,pv⟩ ha
 by_cases hlt:i < n
 ·refine .inr ⟨hgo i H hlt e,fun x H' y=>turn i σ ys H x H' _ hlt e sv pv y fun σ2 H2 s2 q2=>?_⟩
  refine q2 _ _ (fun y H4 e4 p4=>?_) fun H3 e3 p3=>?_
  ·have a4:H4 acc=some (accO acc ys):=e4 _ _ ha
   have z:ys.length < sizeLine:=by have:=len _ _ _ hi pv;rw[sizeLine_eq];omega
   refine⟨a4,z,n-(i+1),by omega,rfl,hlt,fun b o hb=>?_,s2,kp _ _ _ _ (jgu a4 rfl) p4⟩
   rw[j08 (j05 hb hn)]
   exact e4 _ _ (e _ _ hb)
  ·exact⟨e3 _ _ ha,n-(i+1),by omega,rfl,hlt,e.tr e3,s2,p3⟩
 ·have hn':i=n:=by omega
  subst hn'
  refine .inl ⟨hst H e,fin ys _ (fun b o hb=>?_) j04 (kp _ _ _ _ (jgu ha rfl) pv)⟩
  rw[j08 (j05 hb hn)]
  exact e _ _ hb
theorem j0x {a:Addr}{u:Option V} (hx:SqL K H1 a xs) (hz:xs.length≤1000000) (hn:H1 acc=none) (Pv:Nat→List V→Hp→Prop) (h0:Pv 0 [] H1) (kp:∀ i ys H H',Kp H H'→Pv i ys H→Pv i ys H') (len:∀ i ys H,i≤xs.length→Pv i ys H→ys.length≤i)
  (turn:∀ i x ys H,xs[i]?=some x→Ext H1 H→Pv i ys H→j8p ts te (Pv (i+1)) ys H (some x :: fr) H)
  (fin:∀ ys H,Ext H1 H→H acc=some (.lst ys)→Pv xs.length ys H→R H):ja9 (Itl K a) (ja7 0) ts te acc (u :: fr) H1 R:=by
 refine j3x xs.length hz hn (fun σ=>∃ u,σ=u :: fr) Pv ⟨u,rfl⟩ h0 kp (fun i H hi e=>⟨xs,xs[i],e.seqL hx,List.getElem?_eq_getElem hi⟩) (fun H e=>⟨xs,e.seqL hx,Nat.le_refl _⟩) len ?_ fin
 rintro i σ ys H x H' G hi e ⟨u,rfl⟩ pv ⟨rfl,y⟩ hG
 have:=y xs (e.seqL hx)
 exact hG _ _ ⟨some x,rfl⟩ (turn i x ys _ this e pv)
theorem j1e {lo:Int}{n:Nat}{u:Option V} (hz:n≤1000000) (hn:H1 acc=none) (Pv:Nat→List V→Hp→Prop) (h0:Pv 0 [] H1) (kp:∀ i ys H H',Kp H H'→Pv i ys H→Pv i ys H') (len:∀ i ys H,i≤n→Pv i ys H→ys.length≤i)
  (turn:∀ i ys H,i < n→Ext H1 H→Pv i ys H→j8p ts te (Pv (i+1)) ys H (some (.int (lo+i)) :: fr) H)
  (fin:∀ ys H,Ext H1 H→H acc=some (.lst ys)→Pv n ys H→R H):ja9 (Itr lo n) (ja7 0) ts te acc (u :: fr) H1 R:=by
 refine j3x n hz hn (fun σ=>∃ u,σ=u :: fr) Pv ⟨u,rfl⟩ h0 kp (fun i H hi e=>hi) (fun H e=>Nat.le_refl _) len ?_ fin
 rintro i σ ys H x H' G hi e ⟨u,rfl⟩ pv ⟨rfl,rfl⟩ hG
 exact hG _ _ ⟨_,rfl⟩ (turn i ys _ hi e pv)
end
def ItA (b:Bool) (h:Heap) (it l:Addr) (k:Nat):Prop:=match b with | false=>h.IsListIter it l k | true=>h.IsTupleIter it l k
def SqA (b:Bool) (h:Heap) (l:Addr) (xs:Array Value):Prop:=match b with | false=>h.IsList l xs | true=>h.IsTuple l xs
theorem ItA.ex {b:Bool}{h:Heap}{it l:Addr}{k:Nat} (x:ItA b h it l k):∃ o,h.get? it=some o∧∀ v,o.data≠.cell v:=by
 cases b <;> (obtain⟨o,e,_,d⟩:=x;exact⟨o,e,fun v z=>by rw[d] at z;cases z⟩)
theorem ItA.at {b:Bool}{h h':Heap}{it l:Addr}{k:Nat} (x:ItA b h it l k) (f:∀ o,h.get? it=some o→h'.get? it=some o):ItA b h' it l k:=by
 cases b <;> (obtain⟨o,e,r⟩:=x;exact⟨o,f o e,r⟩)
theorem SqA.at {b:Bool}{h h':Heap}{l:Addr}{xs:Array Value} (x:SqA b h l xs) (f:∀ o,h.get? l=some o→h'.get? l=some o):SqA b h' l xs:=by
 cases b <;> (obtain⟨o,e,r⟩:=x;exact⟨o,f o e,r⟩)
theorem SqA.lt {b:Bool}{h:Heap}{l:Addr}{xs:Array Value} (x:SqA b h l xs):l < h.objs.size:=by
 cases b <;> (obtain⟨o,e,_⟩:=x;exact Heap.lt_size e)
theorem ItA.lt {b:Bool}{h:Heap}{it l:Addr}{k:Nat} (x:ItA b h it l k):it < h.objs.size:=by
 obtain⟨o,e,_⟩:=x.ex;exact Heap.lt_size e
section
variable {prog:Program}{w:World}{A:Around}{E:Value→Shared→Prop}{s:Shared}
theorem j8q {it l:Addr}{k:Nat}{xs:Array Value}{x:Value}{Q:Value→Shared→Prop} (i0:s.heap.IsTupleIter it l k) (l0:s.heap.IsTuple l xs) (hx:xs[k]?=some x)
  (q:∀ h',h'.IsTupleIter it l (k+1)→Heap.SameBut it s.heap h'→Q x { s with heap:=h' }):wpAny (model prog w) A (Builtin.SmallTypes.nextOf (.ref it)) Q E s:=by
 obtain⟨oi,ei,ci,di⟩:=id i0
 obtain⟨ol,el,_,nl,dl⟩:=l0
 unfold Builtin.SmallTypes.nextOf
 refine wpAny_bind (wpAny_callSpecial?_slot (name:=Str.ofString "__next__") i0.typeIs F.slot_tuple_iterator_next (wpAny_call_entry F.slot_tuple_iterator_next i0.typeIs F.entry_tuple_iterator_next ?_ (F.args_tuple_iterator_next_1 _)))
 show wpAny _ _ (field (.ref it) 0 >>= _) _ _ _;refine wpAny_bind (wpAny_field ei di (x:=.ref l) rfl ?_)
 show wpAny _ _ (if (Value.ref l == Value.none)=true then _ else _) _ _ _;rw[if_neg (show ¬ ((Value.ref l == Value.none)=true) from fun z=>Bool.false_ne_true z)]
 show wpAny _ _ (field (.ref it) 1 >>= _) _ _ _;refine wpAny_bind (wpAny_field ei di (x:=.int k 0) rfl ?_)
 show wpAny _ _ (seqItems? (.ref l) >>= _) _ _ _;refine wpAny_bind (wpAny_seqItems el dl ?_)
 simp only[Int.toNat_natCast,hx];refine wpAny_bind (wpAny_setField ei di (by simp) (wpAny_pure ⟨x,rfl,wpAny_pure (q _ ⟨_,Heap.get?_update_self _ ei (Obj.isFreed_of_fields (Obj.data_mapFields di _)),(Obj.cls_mapFields ..).trans ci,?_⟩ (Heap.SameBut.update ..))⟩))
 rw[Obj.data_mapFields di];simp[rawInt]
theorem jaw {it l:Addr}{k:Nat}{xs:Array Value}{Q:Value→Shared→Prop} (hh:A.handled=none) (i0:s.heap.IsTupleIter it l k) (l0:s.heap.IsTuple l xs) (hx:xs[k]?=none)
  (q:∀ h' e,Heap.ExtBut it s.heap h'→(∃ o,h'.get? e=some o∧o.cls=.type "StopIteration")→E (.ref e) { s with heap:=h' }):wpAny (model prog w) A (Builtin.SmallTypes.nextOf (.ref it)) Q E s:=by
 obtain⟨oi,ei,ci,di⟩:=id i0
 obtain⟨ol,el,_,nl,dl⟩:=l0
 unfold Builtin.SmallTypes.nextOf
 refine wpAny_bind (wpAny_callSpecial?_slot (name:=Str.ofString "__next__") i0.typeIs F.slot_tuple_iterator_next (wpAny_call_entry F.slot_tuple_iterator_next i0.typeIs F.entry_tuple_iterator_next ?_ (F.args_tuple_iterator_next_1 _)))
 show wpAny _ _ (field (.ref it) 0 >>= _) _ _ _;refine wpAny_bind (wpAny_field ei di (x:=.ref l) rfl ?_)
 show wpAny _ _ (if (Value.ref l == Value.none)=true then _ else _) _ _ _;rw[if_neg (show ¬ ((Value.ref l == Value.none)=true) from fun z=>Bool.false_ne_true z)]
 show wpAny _ _ (field (.ref it) 1 >>= _) _ _ _;refine wpAny_bind (wpAny_field ei di (x:=.int k 0) rfl ?_)
 show wpAny _ _ (seqItems? (.ref l) >>= _) _ _ _;refine wpAny_bind (wpAny_seqItems el dl ?_)
 simp only[Int.toNat_natCast,hx];refine wpAny_bind (wpAny_rule (wpAny_bind (wpAny_setField ei di (by simp) ?_)))
 show wpAny _ _ (newExc (.type "StopIteration") [] >>= _) _ _ _;refine wpAny_bind ?_;simp only[newExc,newTuple]
 refine wpAny_bind (wpAny_newObj_type ?_ (by size_fits));refine wpAny_bind (m:=firstArgMember _ _) (wpAny_of_eq (a:=Value.none) (by first | rfl | (simp only[firstArgMember];rfl)) ?_)
 refine wpAny_newObj_type ?_ (by size_fits);simp only[raiseNew];refine wpAny_bind (wpAny_handled ?_)
 first | rw[show A.in1.handled=none from hh] | rw[hh]
 refine wpAny_bind (wpAny_pure (wpAny_throw ?_));exact q _ _ (((Heap.SameBut.update ..).extBut.push _).push _) ⟨_,Heap.get?_push_size _ rfl,rfl⟩
theorem j2t {b:Bool}{it l:Addr}{k:Nat}{xs:Array Value}{x:Value}{Q:Value→Shared→Prop} (i0:ItA b s.heap it l k) (l0:SqA b s.heap l xs) (hx:xs[k]?=some x)
  (q:∀ h',ItA b h' it l (k+1)→Heap.SameBut it s.heap h'→Q x { s with heap:=h' }):wpAny (model prog w) A (Builtin.SmallTypes.nextOf (.ref it)) Q E s:=by
 cases b
 ·exact wpAny_nextOf_list_item i0 l0 hx q
 ·exact j8q i0 l0 hx q
theorem j6p {b:Bool}{it l:Addr}{k:Nat}{xs:Array Value}{Q:Value→Shared→Prop} (hh:A.handled=none) (i0:ItA b s.heap it l k) (l0:SqA b s.heap l xs) (hx:xs[k]?=none)
  (q:∀ h' e,Heap.ExtBut it s.heap h'→(∃ o,h'.get? e=some o∧o.cls=.type "StopIteration")→E (.ref e) { s with heap:=h' }):wpAny (model prog w) A (Builtin.SmallTypes.nextOf (.ref it)) Q E s:=by
 cases b
 ·exact wpAny_nextOf_list_end hh i0 l0 hx q
 ·exact jaw hh i0 l0 hx q
theorem jax {c d:Bool}{z TI TO i1 i2 l1 l2:Addr}{k:Nat}{xs ys:Array Value}{x y p q:Value}{Q:Option Value→Shared→Prop} (D:ZipApart z TI TO i1 i2 l1 l2)
  (hz:IsZip s.heap z TI TO .none) (hI:IsPair s.heap TI (.ref i1) (.ref i2)) (hO:IsPair s.heap TO p q) (a1:ItA c s.heap i1 l1 k) (a2:ItA d s.heap i2 l2 k) (b1:SqA c s.heap l1 xs) (b2:SqA d s.heap l2 ys) (hx:xs[k]?=some x) (hy:ys[k]?=some y)
  (hQ:∀ h',IsZip h' z TI TO (rawInt s.heap.objs.size)→IsPair h' TO x y→ItA c h' i1 l1 (k+1)→ItA d h' i2 l2 (k+1)→IsPair h' s.heap.objs.size x y →
   (∀ e o,e≠z→e≠TO→e≠i1→e≠i2→s.heap.get? e=some o→h'.get? e=some o)→Q (some (.ref s.heap.objs.size)) { s with heap:=h' }):wpAny (model prog w) A (pyNext (.ref z)) Q E s:=by
 have tz:s.TypeIs (.ref z) "zip":=⟨_,hz,rfl⟩
 unfold pyNext
 refine wpAny_bind (wpAny_attempt (wpAny_callSpecial?_slot (name:=Str.ofString "__next__") tz F.slot_zip_next (wpAny_call_entry F.slot_zip_next tz F.entry_zip_next ?_ (F.args_zip_next_1 _))))
 show wpAny _ _ (field (.ref z) 2 >>= _) _ _ _;refine wpAny_bind (wpAny_field hz rfl (x:=.bool false) rfl ?_)
 show wpAny _ _ (field (.ref z) 3 >>= _) _ _ _;refine wpAny_bind (wpAny_field hz rfl (x:=.ref TI) rfl (wpAny_bind (wpAny_seqItems hI rfl ?_)))
 show wpAny _ _ (Builtin.SmallTypes.ownedTupleIsFree (.ref z) >>= _) _ _ _;refine wpAny_bind ?_;unfold Builtin.SmallTypes.ownedTupleIsFree
 refine wpAny_bind (wpAny_field hz rfl (x:=.none) rfl (wpAny_pure ?_));simp only[if_true]
 refine wpAny_bind (wpAny_rule (wpAny_bind (wpAny_field hz rfl (x:=.ref TO) rfl (wpAny_bind (wpAny_setField_rec hz (by simp) fun g1 z1 s1=>?_)))))
 replace z1:IsZip g1 z TI TO .ellipsis:=z1
 refine wpAny_bind ?_;simp only[List.zipIdx_cons,List.zipIdx_nil,List.forIn_cons,List.forIn_nil]
 refine wpAny_bind (wpAny_bind (wpAny_onRaise ?_))
 show wpAny _ _ (Builtin.SmallTypes.nextOf (.ref i1) >>= _) _ _ _
 refine wpAny_bind (j2t (a1.at fun o e=>s1.extBut _ o D.i1z e) (b1.at fun o e=>s1.extBut _ o D.l1z e) hx fun g2 j1 s2=>wpAny_pure ?_)
 have o2:IsPair g2 TO p q:=s2.extBut _ _ D.TOi1 (s1.extBut _ _ D.TOz hO)
 refine wpAny_bind (wpAny_seqItems o2 rfl (wpAny_bind (wpAny_updateSeq_pair o2 fun g3 o3 s3=>wpAny_bind (wpAny_letGo (wpAny_pure ?_)))))
 replace o3:IsPair g3 TO x q:=o3
 refine wpAny_bind (wpAny_bind (wpAny_onRaise ?_))
 show wpAny _ _ (Builtin.SmallTypes.nextOf (.ref i2) >>= _) _ _ _
 refine wpAny_bind (j2t (a2.at fun o e=>s3.extBut _ o D.TOi2.symm (s2.extBut _ o D.i12.symm (s1.extBut _ o D.i2z e))) (b2.at fun o e=>s3.extBut _ o D.l2TO (s2.extBut _ o D.l2i1 (s1.extBut _ o D.l2z e))) hy fun g4 j2 s4=>wpAny_pure ?_)
 have o4:IsPair g4 TO x q:=s4.extBut _ _ D.TOi2 o3
 refine wpAny_bind (wpAny_seqItems o4 rfl (wpAny_bind (wpAny_updateSeq_pair o4 fun g5 o5 s5=>wpAny_bind (wpAny_letGo (wpAny_pure (wpAny_pure ?_))))))
 replace o5:IsPair g5 TO x y:=o5
 refine wpAny_bind (wpAny_seqItems o5 rfl (wpAny_bind (wpAny_newTuple ?_)))
 have n5:g5.objs.size=s.heap.objs.size:=by rw[s5.1,s4.1,s3.1,s2.1,s1.1]
 have z5:IsZip g5 z TI TO .ellipsis:=s5.extBut _ _ D.TOz.symm (s4.extBut _ _ D.i2z.symm (s3.extBut _ _ D.TOz.symm (s2.extBut _ _ D.i1z.symm z1)))
 have k5:∀ e o,e≠z→e≠TO→e≠i1→e≠i2→s.heap.get? e=some o→g5.get? e=some o:=fun e o q1 q2 q3 q4 h=>s5.extBut _ _ q2 (s4.extBut _ _ q4 (s3.extBut _ _ q2 (s2.extBut _ _ q3 (s1.extBut _ _ q1 h))))
 have j5:ItA c g5 i1 l1 (k+1):=j1.at fun o e=>s5.extBut _ o D.TOi1.symm (s4.extBut _ o D.i12 (s3.extBut _ o D.TOi1.symm e))
 have m5:ItA d g5 i2 l2 (k+1):=j2.at fun o e=>s5.extBut _ o D.TOi2.symm e
 have lz:z < g5.objs.size:=Heap.lt_size z5
 show wpAny _ _ (Builtin.SmallTypes.ownedTupleHandOut (.ref z) (.ref g5.objs.size) >>= _) _ _ _;refine wpAny_bind ?_;unfold Builtin.SmallTypes.ownedTupleHandOut
 have z6:IsZip (g5.push { cls:=.type "tuple",data:=.seq #[x,y] }) z TI TO .ellipsis:=Heap.get?_push_of_some _ z5
 refine wpAny_bind (wpAny_setField_rec z6 (by simp) fun g7 z7 s7=>?_)
 replace z7:IsZip g7 z TI TO (rawInt g5.objs.size):=z7
 refine wpAny_setField_rec z7 (by simp) fun g8 z8 s8=>?_
 replace z8:IsZip g8 z TI TO (rawInt g5.objs.size):=z8
 have k8:∀ e o,e≠z→g5.get? e=some o→g8.get? e=some o:=fun e o q1 h=>s8.extBut _ _ q1 (s7.extBut _ _ q1 (Heap.get?_push_of_some _ h))
 have t8:IsPair g8 g5.objs.size x y:=s8.extBut _ _ (Nat.ne_of_gt lz) (s7.extBut _ _ (Nat.ne_of_gt lz) (Heap.get?_push_size _ rfl))
 refine wpAny_pure ⟨_,rfl,wpAny_pure ?_⟩
 rw[n5] at z8 t8
 show Q (some (.ref g5.objs.size)) _
 rw[n5]
 exact hQ g8 z8 (k8 _ _ D.TOz o5) (j5.at fun o e=>k8 _ o D.i1z e) (m5.at fun o e=>k8 _ o D.i2z e) t8 fun e o q1 q2 q3 q4 h=>k8 e o q1 (k5 e o q1 q2 q3 q4 h)
theorem jdt {c d:Bool}{z TI TO i1 i2 l1 l2:Addr}{k:Nat}{xs ys:Array Value}{p q:Value}{Q:Option Value→Shared→Prop} (hh:A.handled=none) (D:ZipApart z TI TO i1 i2 l1 l2)
  (hz:IsZip s.heap z TI TO .none) (hI:IsPair s.heap TI (.ref i1) (.ref i2)) (hO:IsPair s.heap TO p q) (a1:ItA c s.heap i1 l1 k) (a2:ItA d s.heap i2 l2 k) (b1:SqA c s.heap l1 xs) (b2:SqA d s.heap l2 ys) (hend:xs[k]?=none∨ys[k]?=none)
  (hQ:∀ h',(∀ e o,e≠z→e≠TO→e≠i1→e≠i2→s.heap.get? e=some o→h'.get? e=some o)→Q none { s with heap:=h' }):wpAny (model prog w) A (pyNext (.ref z)) Q E s:=by
 have tz:s.TypeIs (.ref z) "zip":=⟨_,hz,rfl⟩
 have stopped:∀ {h':Heap}{e:Addr},(∃ o,h'.get? e=some o∧o.cls=.type "StopIteration")→(∀ e o,e≠z→e≠TO→e≠i1→e≠i2→s.heap.get? e=some o→h'.get? e=some o) →
   wpAny (model prog w) A (do if ← isInstance (.ref e) (.type "StopIteration") then pure (none:Option Value) else throw (.ref e)) Q E { s with heap:=h' }:=fun {h' e} ⟨o,ho,hc⟩ hk =>
  wpAny_bind (wpAny_isInstance (T:="StopIteration") (b:=true) ⟨o,ho,hc⟩ isSubtype_stop (wpAny_pure (hQ _ hk)))
 unfold pyNext
 refine wpAny_bind (wpAny_attempt (wpAny_callSpecial?_slot (name:=Str.ofString "__next__") tz F.slot_zip_next (wpAny_call_entry F.slot_zip_next tz F.entry_zip_next ?_ (F.args_zip_next_1 _))))
 show wpAny _ _ (field (.ref z) 2 >>= _) _ _ _;refine wpAny_bind (wpAny_field hz rfl (x:=.bool false) rfl ?_)
 show wpAny _ _ (field (.ref z) 3 >>= _) _ _ _;refine wpAny_bind (wpAny_field hz rfl (x:=.ref TI) rfl (wpAny_bind (wpAny_seqItems hI rfl ?_)))
 show wpAny _ _ (Builtin.SmallTypes.ownedTupleIsFree (.ref z) >>= _) _ _ _;refine wpAny_bind ?_;unfold Builtin.SmallTypes.ownedTupleIsFree
 refine wpAny_bind (wpAny_field hz rfl (x:=.none) rfl (wpAny_pure ?_));simp only[if_true]
 refine wpAny_bind (wpAny_rule (wpAny_bind (wpAny_field hz rfl (x:=.ref TO) rfl (wpAny_bind (wpAny_setField_rec hz (by simp) fun g1 z1 s1=>?_)))))
 replace z1:IsZip g1 z TI TO .ellipsis:=z1
 refine wpAny_bind ?_;simp only[List.zipIdx_cons,List.zipIdx_nil,List.forIn_cons,List.forIn_nil]
 refine wpAny_bind (wpAny_bind (wpAny_onRaise ?_))
 show wpAny _ _ (Builtin.SmallTypes.nextOf (.ref i1) >>= _) _ _ _
 cases hx:xs[k]? with
 | none =>
  refine wpAny_bind (j6p hh (a1.at fun o e=>s1.extBut _ o D.i1z e) (b1.at fun o e=>s1.extBut _ o D.l1z e) hx fun g2 e s2 ⟨oe,he,ce⟩=>?_)
  have z2:IsZip g2 z TI TO .ellipsis:=s2 _ _ D.i1z.symm z1
  have ez:e≠z:=fun y=>by subst y;rw[z2] at he;cases he;simp at ce
  exact wpAny_setField_rec z2 (by simp) fun g3 _ s3=>stopped ⟨oe,s3.extBut _ _ ez he,ce⟩ fun e o q1 _ q3 _ h=>s3.extBut _ _ q1 (s2 _ _ q3 (s1.extBut _ _ q1 h))
 | some x =>
  have hy:ys[k]?=none:=hend.resolve_left (by rw[hx];simp)
  refine wpAny_bind (j2t (a1.at fun o e=>s1.extBut _ o D.i1z e) (b1.at fun o e=>s1.extBut _ o D.l1z e) hx fun g2 j1 s2=>wpAny_pure ?_)
  have o2:IsPair g2 TO p q:=s2.extBut _ _ D.TOi1 (s1.extBut _ _ D.TOz hO)
  refine wpAny_bind (wpAny_seqItems o2 rfl (wpAny_bind (wpAny_updateSeq_pair o2 fun g3 o3 s3=>wpAny_bind (wpAny_letGo (wpAny_pure ?_)))))
  refine wpAny_bind (wpAny_bind (wpAny_onRaise ?_))
  show wpAny _ _ (Builtin.SmallTypes.nextOf (.ref i2) >>= _) _ _ _
  refine wpAny_bind (j6p hh (a2.at fun o e=>s3.extBut _ o D.TOi2.symm (s2.extBut _ o D.i12.symm (s1.extBut _ o D.i2z e))) (b2.at fun o e=>s3.extBut _ o D.l2TO (s2.extBut _ o D.l2i1 (s1.extBut _ o D.l2z e))) hy fun g4 e s4 ⟨oe,he,ce⟩=>?_)
  have z4:IsZip g4 z TI TO .ellipsis:=s4 _ _ D.i2z.symm (s3.extBut _ _ D.TOz.symm (s2.extBut _ _ D.i1z.symm z1))
  have ez:e≠z:=fun y=>by subst y;rw[z4] at he;cases he;simp at ce
  exact wpAny_setField_rec z4 (by simp) fun g5 _ s5=>stopped ⟨oe,s5.extBut _ _ ez he,ce⟩ fun e o q1 q2 q3 q4 h=>s5.extBut _ _ q1 (s4 _ _ q4 (s3.extBut _ _ q2 (s2.extBut _ _ q3 (s1.extBut _ _ q1 h))))
def itO (b:Bool) (l:Addr):Obj:={ cls:=.type (if b then "tuple_iterator" else "list_iterator"),data:=.fields #[.ref l,.int 0 0] }
theorem jl9 {b:Bool}{l:Addr}{xs:Array Value}{Q:Value→Shared→Prop} (h:SqA b s.heap l xs) (q:Q (.ref s.heap.objs.size) { s with heap:=s.heap.push (itO b l) }):wpAny (model prog w) A (pyIter (.ref l)) Q E s:=by
 cases b
 ·exact wpAny_pyIter_list h q
 ·exact wpAny_pyIter_tuple h q
theorem jdu {b:Bool}{l it:Addr}{h:Heap} (e:h.get? it=some (itO b l)):ItA b h it l 0:=by
 cases b <;> exact⟨_,e,rfl,rfl⟩
abbrev zh1 (c:Bool) (h:Heap) (l1:Addr):Heap:=h.push (itO c l1)
abbrev zh2 (c d:Bool) (h:Heap) (l1 l2:Addr):Heap:=(zh1 c h l1).push (itO d l2)
abbrev zh3 (c d:Bool) (h:Heap) (l1 l2:Addr):Heap:=(zh2 c d h l1 l2).push { cls:=.type "tuple",data:=.seq #[.ref h.objs.size,.ref (zh1 c h l1).objs.size] }
abbrev zh4 (c d:Bool) (h:Heap) (l1 l2:Addr):Heap:=(zh3 c d h l1 l2).push { cls:=.type "tuple",data:=.seq #[.none,.none] }
abbrev zh5 (c d:Bool) (h:Heap) (l1 l2:Addr):Heap:=(zh4 c d h l1 l2).push { cls:=.type "zip",data:=.fields #[.none,.bool false,.bool false,.ref (zh2 c d h l1 l2).objs.size,.ref (zh3 c d h l1 l2).objs.size] }
theorem jdv (c d:Bool) (l1 l2:Addr) (xs ys:Array Value):Meets (Builtin.«zip.__new__» ⟨[.type "zip",.ref l1,.ref l2],[]⟩) (fun _ R s=>SqA c s.heap l1 xs∧SqA d s.heap l2 ys∧R (.ok (.ret (.ref (zh4 c d s.heap l1 l2).objs.size))) { s with heap:=zh5 c d s.heap l1 l2 }) :=
 .of_wp fun prog w A R s h=>by
  obtain⟨hp,g,dd,tk,os⟩:=s
  obtain⟨m1,m2,h⟩:=h
  have hsub:=PySem.sub_zip
  have M1:SqA c (Shared.heap ⟨hp,g,dd,tk,os⟩) l1 xs:=m1
  have M2:SqA d (Shared.heap ⟨hp.push (itO c l1),g,dd,tk,os⟩) l2 ys:=m2.at fun o e=>Heap.get?_push_of_some _ e
  wp_walk using jl9 M1,jl9 M2
  exact⟨_,rfl,h⟩
theorem jay {c d:Bool}{l1 l2:Addr}{xs ys:Array Value}{Q:Value→Shared→Prop} (m1:SqA c s.heap l1 xs) (m2:SqA d s.heap l2 ys)
  (h:∀ h',IsZip h' (s.heap.objs.size+4) (s.heap.objs.size+2) (s.heap.objs.size+3) .none→IsPair h' (s.heap.objs.size+2) (.ref s.heap.objs.size) (.ref (s.heap.objs.size+1)) →
   IsPair h' (s.heap.objs.size+3) .none .none→ItA c h' s.heap.objs.size l1 0→ItA d h' (s.heap.objs.size+1) l2 0→(∀ e o,s.heap.get? e=some o→h'.get? e=some o)→Q (.ref (s.heap.objs.size+4)) { s with heap:=h' }) :
  wpAny (model prog w) A (call (.type "zip") [.ref l1,.ref l2]) Q E s:=by
 refine callType_new F.called_zip (by decide) (F.typeCall_zip_2 _ _) (F.newCall_zip_2 _ _) (fun obj=>F.args_object_init_3 obj _ _) F.entry_zip_new (jdv c d l1 l2 xs ys) ⟨m1,m2,?_⟩
 have n1:(zh1 c s.heap l1).objs.size=s.heap.objs.size+1:=Heap.size_push ..
 have n2:(zh2 c d s.heap l1 l2).objs.size=s.heap.objs.size+2:=by rw[Heap.size_push,n1]
 have n3:(zh3 c d s.heap l1 l2).objs.size=s.heap.objs.size+3:=by rw[Heap.size_push,n2]
 have n4:(zh4 c d s.heap l1 l2).objs.size=s.heap.objs.size+4:=by rw[Heap.size_push,n3]
 have up1:∀ {h:Heap}{o u:Obj}{e:Addr},h.get? e=some u→(h.push o).get? e=some u:=fun q=>Heap.get?_push_of_some _ q
 have g5:(zh5 c d s.heap l1 l2).get? (zh4 c d s.heap l1 l2).objs.size=some _:=Heap.get?_push_size _ rfl
 have g4:(zh5 c d s.heap l1 l2).get? (zh3 c d s.heap l1 l2).objs.size=some _:=up1 (Heap.get?_push_size _ rfl)
 have g3:(zh5 c d s.heap l1 l2).get? (zh2 c d s.heap l1 l2).objs.size=some _:=up1 (up1 (Heap.get?_push_size _ rfl))
 have g2:(zh5 c d s.heap l1 l2).get? (zh1 c s.heap l1).objs.size=some (itO d l2):=up1 (up1 (up1 (Heap.get?_push_size _ (by cases d <;> rfl))))
 have g1:(zh5 c d s.heap l1 l2).get? s.heap.objs.size=some (itO c l1):=up1 (up1 (up1 (up1 (Heap.get?_push_size _ (by cases c <;> rfl)))))
 show _∧_
 rw[n2,n3,n4] at g5
 rw[n1,n2] at g3
 rw[n3] at g4
 rw[n1] at g2
 rw[n4]
 exact⟨⟨_,g5,rfl⟩,h _ g5 g3 g4 (jdu g1) (jdu g2) fun e o q=>up1 (up1 (up1 (up1 (up1 q))))⟩
end
def SqE (K:PySem.W.Frag) (H:Hp) (a:Addr) (xs:List V):Bool→Prop
 | false=>SqL K H a xs
 | true=>SqT K H a xs
theorem SqE.mono {K:PySem.W.Frag}{H H':Hp}{a:Addr}{xs:List V}{b:Bool} (e:Ext H H') (h:SqE K H a xs b):SqE K H' a xs b:=by
 cases b
 ·exact e.seqL h
 ·exact e.seqT h
theorem Inv.sqe {X:Cx}{pins:List (Addr × Obj)}{σ:St}{H:Hp}{s:Shared}{a:Addr}{xs:List V}{b:Bool} (I:Inv X pins σ H s) (h:SqE X.K H a xs b):∃ its:List Value,Vals xs its∧SqA b s.heap a its.toArray∧xs.length≤sizeLine:=by
 cases b
 ·obtain⟨its,r,p,z⟩:=I.list h;exact⟨its,r,p.isList,z⟩
 ·obtain⟨its,r,p,z⟩:=I.tuple h;exact⟨its,r,p,z⟩
theorem Inv.sqe_inj {X:Cx}{pins:List (Addr × Obj)}{σ:St}{H:Hp}{s:Shared}{a:Addr}{xs ys:List V}{b:Bool} (I:Inv X pins σ H s) (h:SqE X.K H a xs b) (h':SqE X.K H a ys b):xs=ys:=by
 cases b
 ·exact I.list_inj h h'
 ·exact I.tuple_inj h h'
def Itz2 (K:PySem.W.Frag) (c d:Bool) (p q:Addr):It :=
 ⟨fun i H=>∃ xs ys,SqE K H p xs c∧SqE K H q ys d∧i < xs.length∧i < ys.length,
   fun i H x H'=>∃ r u v,H r=none∧x=.ref r∧H'=upd H r (.tup [u,v])∧∀ xs ys,SqE K H p xs c→SqE K H q ys d→xs[i]?=some u∧ys[i]?=some v,
   fun i H=>∃ xs ys,SqE K H p xs c∧SqE K H q ys d∧(xs.length≤i∨ys.length≤i)⟩
def zst (c d:Bool) (z TI TO i1 i2 l1 l2:Addr) (i:Nat) (h:Heap):Prop:=IsZip h z TI TO .none∧IsPair h TI (.ref i1) (.ref i2)∧(∃ a b,IsPair h TO a b)∧ItA c h i1 l1 i∧ItA d h i2 l2 i
theorem jaz {P:Program}{w:World}{K:PySem.W.Frag}{es:List Expr}{kx:Nat}{tp:Pos}{cc dd:Bool}{z TI TO i1 i2 l1 l2:Addr} (D:ZipApart z TI TO i1 i2 l1 l2) :
  Turn P w K (.Tuple es kx tp) (Itz2 K cc dd l1 l2) [z,TI,TO,i1,i2] z (zst cc dd z TI TO i1 i2 l1 l2) where
 mem:=by simp
 obj:=fun i h st b hb=>by
  obtain⟨hz,hTI,⟨a,c,hTO⟩,s1,s2⟩:=st
  simp only[List.mem_cons,List.mem_nil_iff,or_false] at hb
  rcases hb with rfl | rfl | rfl | rfl | rfl
  ·exact⟨_,hz,fun v q=>by cases q⟩
  ·exact⟨_,hTI,fun v q=>by cases q⟩
  ·exact⟨_,hTO,fun v q=>by cases q⟩
  ·exact s1.ex
  ·exact s2.ex
 keep:=fun i h h' st k=>by
  obtain⟨hz,hTI,⟨a,c,hTO⟩,s1,s2⟩:=st
  exact⟨k z (by simp) _ hz,k TI (by simp) _ hTI,⟨a,c,k TO (by simp) _ hTO⟩,s1.at fun o e=>k i1 (by simp) o e,s2.at fun o e=>k i2 (by simp) o e⟩
 item:=by
  intro X hP hw hK hc i pins s σ H E I hf st hg
  subst hP hw hK
  obtain⟨xs,ys,hx,hy,lx,ly⟩:=hg
  obtain⟨hz,hTI,⟨a,c,hTO⟩,s1,s2⟩:=id st
  obtain⟨us,ru,pu,zu⟩:=I.sqe hx
  obtain⟨ws,rw',pw,zw⟩:=I.sqe hy
  obtain⟨u,eu,r1⟩:=ru.get (List.getElem?_eq_getElem lx)
  obtain⟨v,ev,r2⟩:=rw'.get (List.getElem?_eq_getElem ly)
  refine jax D hz hTI hTO s1 s2 pu pw (x:=u) (y:=v) (by simpa using eu) (by simpa using ev) fun h1 z1 t1 j1 j2 np kk=>⟨_,rfl,?_⟩
  refine wpAny_letOwnedTupleGo_zip z1 fun h2 z2 sb=>?_
  have nT:s.heap.objs.size≠z:=Nat.ne_of_gt (Heap.lt_size hz)
  have kk2:∀ b o,b∉[z,TI,TO,i1,i2]→s.heap.get? b=some o→h2.get? b=some o:=fun b o hb e=>by
   simp only[List.mem_cons,List.mem_nil_iff,or_false,not_or] at hb
   exact sb.extBut b o hb.1 (kk b o hb.1 hb.2.2.1 hb.2.2.2.1 hb.2.2.2.2 e)
  have np2:IsPair h2 s.heap.objs.size u v:=sb.extBut _ _ nT np
  have I2:=I.turnLaid (t':=s.toks) (a:=s.heap.objs.size) (o:=.tup [xs[i],ys[i]]) kk2 hf (Nat.le_refl _) (show ObjOk X.prog X.w _ h2 _ (.tup [xs[i],ys[i]]) from⟨by show 2≤sizeLine;rw[sizeLine_eq];decide,[u,v],.cons r1 (.cons r2 .nil),⟨⟨_,np2,rfl,0,rfl⟩,_,np2,rfl⟩⟩)
  refine⟨.ref s.heap.objs.size,_,I2,rfl,⟨_,_,_,I.hok.fresh (Nat.le_refl _),rfl,rfl,fun xs' ys' e1 e2=>?_⟩,?_,fun b hb=>?_⟩
  ·rw[I.sqe_inj e1 hx,I.sqe_inj e2 hy]
   exact⟨List.getElem?_eq_getElem lx,List.getElem?_eq_getElem ly⟩
  ·exact⟨z2,sb.extBut _ _ D.TIz (kk TI _ D.TIz D.TITO D.TIi1 D.TIi2 hTI),⟨_,_,sb.extBut _ _ D.TOz t1⟩,j1.at fun o e=>sb.extBut _ o D.i1z e,j2.at fun o e=>sb.extBut _ o D.i2z e⟩
  ·rw[j08 (fun q=>?_)]
   ·exact (hf b hb).1
   ·have lt:b < s.heap.objs.size:=by
     simp only[List.mem_cons,List.mem_nil_iff,or_false] at hb
     rcases hb with rfl | rfl | rfl | rfl | rfl
     ·exact Heap.lt_size hz
     ·exact Heap.lt_size hTI
     ·exact Heap.lt_size hTO
     ·exact s1.lt
     ·exact s2.lt
    exact absurd lt (by rw[q];exact Nat.lt_irrefl _)
 done:=by
  intro X hP hw hK hc i pins s σ H E I hf st hg
  subst hP hw hK
  obtain⟨xs,ys,hx,hy,hl⟩:=hg
  obtain⟨hz,hTI,⟨a,c,hTO⟩,s1,s2⟩:=st
  obtain⟨us,ru,pu,zu⟩:=I.sqe hx
  obtain⟨ws,rw',pw,zw⟩:=I.sqe hy
  have l1:=ru.length
  have l2:=rw'.length
  refine jdt (I.ok.hd hc) D hz hTI hTO s1 s2 pu pw ?_ fun h1 kk=>⟨rfl,I.turns (t':=s.toks) (ch:=[z,TI,TO,i1,i2]) (fun b o hb e=>?_) hf⟩
  ·rcases hl with q | q
   ·exact .inl (by simp;omega)
   ·exact .inr (by simp;omega)
  ·simp only[List.mem_cons,List.mem_nil_iff,or_false,not_or] at hb
   exact kk b o hb.1 hb.2.2.1 hb.2.2.2.1 hb.2.2.2.2 e
 self:=fun _ _ _ _ _ st h=>wpAny_pyIter_zip st.1 h
section
variable {X:Cx}
def iZip2 (K:PySem.W.Frag) (ta:TA):TI:=fun σ H R=>ta σ H fun vs H1=>∃ p q xs ys c d,vs=[.ref p,.ref q]∧SqE K H1 p xs c∧SqE K H1 q ys d∧R (Itz2 K c d p q) H1
theorem jce {es:List Expr}{kx:Nat}{tp:Pos}{a b:Expr}{ta:TA}{p pos:Pos} (hg:Gl X "zip") (hm:X.mg "zip"=none) (ha:PA X [a,b] ta) (hs:starEach [a,b] X.env=[(false,eval a X.env),(false,eval b X.env)]:=by rfl) (hs2:starEach [b] X.env=[(false,eval b X.env)]:=by rfl) :
  PI X (.Tuple es kx tp) (.Call (.Name "zip" p) [a,b] [] pos) (iZip2 X.K ta):=by
 intro pins s σ H R I h
 refine Call_ (j25 I hg hm boot_zip (PyProof.Rows.callWith_type1 (thn (ha pos pins s σ H _ I h) fun us s1 ⟨vs,H1,I1,r1,q1⟩=>?_) (by rw[hs,hs2]) (by rw[hs2];rfl)))
 obtain⟨p1,p2,xs,ys,c,d,e,hx,hy,q⟩:=q1
 subst e
 obtain⟨u,v,rfl,ru,rv⟩:=jfi r1
 cases ru
 cases rv
 obtain⟨i1,ri1,pl1,z1⟩:=I1.sqe hx
 obtain⟨i2,ri2,pl2,z2⟩:=I1.sqe hy
 refine jay pl1 pl2 fun h' hz hTI hTO j1 j2 hk=>?_
 have I2:Inv X pins σ H1 { s1 with heap:=h' }:=I1.kept (t':=s1.toks) hk
 refine wpAny_pyIter_zip (s:={ s1 with heap:=h' }) hz ⟨_,[s1.heap.objs.size+4,s1.heap.objs.size+2,s1.heap.objs.size+3,s1.heap.objs.size,s1.heap.objs.size+1],_,_,H1,rfl,I2,jaz (zipApart_new pl1.lt pl2.lt),⟨hz,hTI,⟨_,_,hTO⟩,j1,j2⟩,fun b hb=>?_,q⟩
 have hb':s1.heap.objs.size≤b:=by
  simp only[List.mem_cons,List.mem_nil_iff,or_false] at hb
  rcases hb with rfl | rfl | rfl | rfl | rfl <;> omega
 exact I1.fpOk hb' (I1.hok.fresh hb')
end
theorem jdw {K:PySem.W.Frag}{p q:Addr}{c d:Bool}{xs ys:List V}{g:TG}{tb:TS}{D:Ends}{σ:St}{H:Hp} (Pv:Nat→St→Hp→Prop) (hl:xs.length=ys.length) (h0:Pv 0 σ H) (hq:∀ i σ H,i≤xs.length→Pv i σ H→SqE K H p xs c∧SqE K H q ys d)
  (hs:∀ i x y σ H r,xs[i]?=some x→ys[i]?=some y→Pv i σ H→H r=none→g (.ref r) σ (upd H r (.tup [x,y])) fun σ2 H2=>tb { D with nx:=Pv (i+1),ct:=Pv (i+1),bk:=D.nx } σ2 H2) (hd:∀ σ H,Pv xs.length σ H→D.nx σ H) :
  ∃ W:Nat→Nat→St→Hp→Prop,(∃ m,W 0 m σ H)∧∀ i m σ H,W i m σ H →
   ((Itz2 K c d p q).stop i H∧D.nx σ H)∨((Itz2 K c d p q).go i H∧∃ N:St→Hp→Prop,(∀ σ' H',N σ' H'→∃ m',m' < m∧W (i+1) m' σ' H')∧∀ x H',(Itz2 K c d p q).yld i H x H'→g x σ H' fun σ2 H2=>tb { D with nx:=N,ct:=N,bk:=D.nx } σ2 H2):=by
 refine⟨fun i m σ H=>m=xs.length-i∧i≤xs.length∧Pv i σ H,⟨xs.length,by simp,Nat.zero_le _,h0⟩,?_⟩
 rintro i m σ H ⟨rfl,hi,pv⟩
 obtain⟨q1,q2⟩:=hq i σ H hi pv
 by_cases hlt:i < xs.length
 ·refine .inr ⟨⟨xs,ys,q1,q2,hlt,by omega⟩,Pv (i+1),fun σ' H' p'=>⟨xs.length-(i+1),by omega,rfl,hlt,p'⟩,fun x H' y=>?_⟩
  obtain⟨r,u,v,n,rfl,rfl,y⟩:=y
  obtain⟨e1,e2⟩:=y xs ys q1 q2
  exact hs i u v σ _ r e1 e2 pv n
 ·have e:i=xs.length:=by omega
  subst e
  exact .inl ⟨⟨xs,ys,q1,q2,.inl (Nat.le_refl _)⟩,hd σ H pv⟩
theorem jb0 {K:PySem.W.Frag}{ts:List TT}{te:TE}{acc:Addr}{fr:St}{H1:Hp}{R:Hp→Prop}{xs zs:List V}{p q:Addr}{c d:Bool}{u v:Option V} (hx:SqE K H1 p xs c) (hy:SqE K H1 q zs d) (hl:xs.length=zs.length) (hz:xs.length≤1000000) (hn:H1 acc=none) (Pv:Nat→List V→Hp→Prop) (h0:Pv 0 [] H1) (kp:∀ i ys H H',Kp H H'→Pv i ys H→Pv i ys H') (len:∀ i ys H,i≤xs.length→Pv i ys H→ys.length≤i)
  (turn:∀ i x z ys H H',xs[i]?=some x→zs[i]?=some z→Ext H1 H→Ext H H'→Pv i ys H→j8p ts te (Pv (i+1)) ys H (some x :: some z :: fr) H')
  (fin:∀ ys H,Ext H1 H→H acc=some (.lst ys)→Pv xs.length ys H→R H):ja9 (Itz2 K c d p q) (gTup K 2 (jj9 (ja7 0) (jj9 (ja7 1) gNil))) ts te acc (u :: v :: fr) H1 R:=by
 refine j3x xs.length hz hn (fun σ=>∃ u v,σ=u :: v :: fr) Pv ⟨u,v,rfl⟩ h0 kp (fun i H hi e=>⟨xs,zs,hx.mono e,hy.mono e,hi,by omega⟩) (fun H e=>⟨xs,zs,hx.mono e,hy.mono e,.inl (Nat.le_refl _)⟩) len ?_ fin
 rintro i σ ys H x H' G hi e ⟨u,v,rfl⟩ pv ⟨r,y1,y2,nr,rfl,rfl,y⟩ hG
 obtain⟨e1,e2⟩:=y xs zs (hx.mono e) (hy.mono e)
 exact⟨r,[y1,y2],rfl,SqT.of j04,rfl,y1,[y2],rfl,y2,[],rfl,rfl,hG _ _ ⟨_,_,rfl⟩ (turn i y1 y2 ys _ _ e1 e2 e (j0g nr) pv)⟩
section
variable {prog:Program}{w:World}{A:Around}{E:Value→Shared→Prop}{s:Shared}
theorem j8r {b:Bool}{l:Addr}{vs:List Value}{Q:List Value→Shared→Prop} (hl:SqA b s.heap l vs.toArray) (hz:vs.length≤sizeLine)
  (h:Q vs { s with heap:=(s.heap.push (seqObj "list" #[] 0)).update s.heap.objs.size (Obj.mapSeq (·++vs.toArray)) }):wpAny (model prog w) A (collect (.ref l)) Q E s:=by
 cases b with
 | false=>exact collect_list hl h hz
 | true =>
  obtain⟨ob,eb,cb,nb,db⟩:=id hl
  unfold collect;refine wpAny_bind (wpAny_runValue (codeAny_builtin entry_proto_collect' ?_))
  show wpAny _ _ (do again (.builtin "list.__iadd__" ⟨[← newList [],.ref l],[]⟩)) _ _ _;refine wpAny_bind (wpAny_newList (wpAny_pure ⟨Code.quiet_builtin _ (by decide +kernel),codeAny_builtin entry_list_iadd' ?_⟩))
  show wpAny _ _ (Builtin.List.listExtendWith (.ref s.heap.objs.size) (.ref l) (.ref s.heap.objs.size)) _ _ { s with heap:=s.heap.push (seqObj "list" #[] 0) };unfold Builtin.List.listExtendWith
  have eb':(s.heap.push (seqObj "list" #[] 0)).get? l=some ob:=Heap.get?_push_of_some _ eb
  refine wpAny_bind (wpAny_typeOf (T:="tuple") ⟨ob,eb',cb⟩ ?_)
  rw[if_pos (by rw[show (Value.type "tuple" == Value.type "tuple")=true from rfl];simp)]
  refine wpAny_bind (listItems_at eb' db (wpAny_bind (listItems_at (xs:=#[]) (n:=0) (Heap.get?_push_size _ rfl) rfl ?_)));rw[if_neg (by simp)]
  refine wpAny_bind (listUpdate_at (xs:=#[]) (n:=0) (Heap.get?_push_size _ rfl) rfl (wpAny_pure ?_) (Nat.zero_le _) (by show (#[]++vs.toArray).size≤sizeLine+1;simp only[Array.size_append,List.size_toArray,List.length_nil];omega))
  show wpAny (model prog w) A (do let o ← load s.heap.objs.size;match o.data with | .seq xs _=>pure xs.toList | _=>unsupported "internal:collect") Q E { s with heap:=(s.heap.push (seqObj "list" #[] 0)).update s.heap.objs.size (Obj.mapSeq (·++vs.toArray)) }
  refine wpAny_bind (wpAny_load (get?_update_seq (Heap.get?_push_size _ rfl) _) ?_)
  show wpAny _ _ (pure ((#[]:Array Value)++vs.toArray).toList) Q E _;rw[show ((#[]:Array Value)++vs.toArray).toList=vs by simp];exact wpAny_pure h
theorem jgv {b:Bool}{l:Addr}{vs:List Value}{ns:List Int}{Q:Value→Shared→Prop} (hl:SqA b s.heap l vs.toArray) (hz:vs.length≤sizeLine) (hI:IntsAre vs ns) (h64:vs.length < 64)
  (h:∀ (out:Array Value) (ns':List Int),IntsAre out.toList ns'→ns'.Perm ns→ns'.Pairwise (·≤·)→Q (.ref (s.heap.objs.size+1)) { s with heap:=sortedAll s.heap vs out }):wpAny (model prog w) A (call (.builtin "sorted") [.ref l]) Q E s:=by
 refine Calls.call_function_entry kind_sorted plain_sorted entry_sorted (args_sorted1 _) ?_;unfold Builtin.«sorted»
 refine wpAny_bind (m:=checkCount "sorted" 1 1 _) (wpAny_pure (wpAny_bind (j8r hl hz (wpAny_bind (wpAny_newList ?_)))))
 have n1:((s.heap.push (seqObj "list" #[] 0)).update s.heap.objs.size (Obj.mapSeq (·++vs.toArray))).objs.size=s.heap.objs.size+1:=by rw[Heap.size_update,size_push']
 have o1:(((s.heap.push (seqObj "list" #[] 0)).update s.heap.objs.size (Obj.mapSeq (·++vs.toArray))).push (seqObj "list" vs.toArray 0)).get? (s.heap.objs.size+1)=some (seqObj "list" vs.toArray 0):=by rw[← n1];exact Heap.get?_push_size _ rfl
 show wpAny _ _ _ _ _ { s with heap:=((s.heap.push (seqObj "list" #[] 0)).update s.heap.objs.size (Obj.mapSeq (·++vs.toArray))).push (seqObj "list" vs.toArray 0) };rw[n1]
 exact wpAny_bind (wpAny_holding (wpAny_call_entry slot_list_sort ⟨_,o1,rfl⟩ entry_list_sort (list_sort_tree o1 hI h64 fun out ns' a1 a2 a3=>⟨_,rfl,wpAny_pure ⟨_,rfl,h out ns' a1 a2 a3⟩⟩) (args_list_sort _)))
end
section
variable {X:Cx}
def j8s (K:PySem.W.Frag):List V→Hp→VK→Prop:=fun xs H Q=>∃ (p:Addr) (ns:List Int) (c:Bool),xs=[.ref p]∧SqE K H p (ns.map V.int) c∧ns.length < 64∧∀ l (ns':List Int),H l=none→ns'.Perm ns→ns'.Pairwise (·≤·)→Q (.ref l) (upd H l (.lst (ns'.map V.int)))
theorem jgw:CallR X (.builtin "sorted") (j8s X.K):=by
 intro pins s σ H xs us Q I r h
 obtain⟨p,ns,c,rfl,hq,h64,q⟩:=h
 obtain⟨u,rfl,rx⟩:=j4a r
 cases rx
 obtain⟨its,r',pl,hz⟩:=I.sqe hq
 have hi:IntsAre its ns:=j14 r'
 have hlen:=r'.length
 rw[List.length_map] at hlen hz
 refine jgv pl (by omega) hi (by omega) fun out ns' a1 a2 a3=>?_
 obtain⟨e,he⟩:=sortedAll_at s.heap its out
 refine⟨.ref (s.heap.objs.size+1),_,I.laid (t':=s.toks) (fun b o q=>sortedAll_old q) (Nat.le_succ _) (show ObjOk X.prog X.w _ _ _ (.lst (ns'.map V.int)) from⟨by rw[List.length_map,a2.length_eq];exact hz,out.toList,e,j1y a1,by simpa using he⟩),rfl,q _ ns' (I.hok.fresh (Nat.le_succ _)) a2 a3⟩
end
mutual
def D.py:D→PyData
 | .non=>.none | .bl b=>.bool b | .int i=>.int i | .str x=>.str x | .tup l=>.tuple (D.pyL l) | .lst l=>.list (D.pyL l) | .dct=>.dict []
def D.pyL:List D→List PyData
 | []=>[]
 | d :: r=>d.py :: D.pyL r
def D.eqOk:D→Bool
 | .str x=>PyData.strOk x
 | .tup l=>D.eqOkL l
 | .lst l=>D.eqOkL l
 | .dct=>false
 | _=>true
def D.eqOkL:List D→Bool
 | []=>true
 | d :: r=>d.eqOk && D.eqOkL r
end
mutual
theorem D.canLay:∀ d:D,d.eqOk=true→d.py.canLay0=true
 | .non,_=>by simp[D.py,PyData.canLay0]
 | .bl _,_=>by simp[D.py,PyData.canLay0]
 | .int _,_=>by simp[D.py,PyData.canLay0]
 | .str x,h=>by simp only[D.eqOk] at h;simpa[D.py,PyData.canLay0] using h
 | .tup l,h=>by simp only[D.eqOk] at h;simpa[D.py,PyData.canLay0] using D.canLayL l h
 | .lst l,h=>by simp only[D.eqOk] at h;simpa[D.py,PyData.canLay0] using D.canLayL l h
 | .dct,h=>by simp[D.eqOk] at h
theorem D.canLayL:∀ l:List D,D.eqOkL l=true→PyData.canLayAll0 (D.pyL l)=true
 | [],_=>by simp[D.pyL,PyData.canLayAll0]
 | d :: r,h=>by
  simp only[D.eqOkL,Bool.and_eq_true] at h
  simp[D.pyL,PyData.canLayAll0,D.canLay d h.1,D.canLayL r h.2]
theorem D.pyDepth:∀ d:D,d.py.depth≤d.depth+1
 | .non=>by simp[D.py,PyData.depth]
 | .bl _=>by simp[D.py,PyData.depth]
 | .int _=>by simp[D.py,PyData.depth]
 | .str _=>by simp[D.py,PyData.depth]
 | .tup l=>by have:=D.pyDepthL l;simp only[D.py,PyData.depth,D.depth];omega
 | .lst l=>by have:=D.pyDepthL l;simp only[D.py,PyData.depth,D.depth];omega
 | .dct=>by simp[D.py,PyData.depth,PyData.depthKv,D.depth]
theorem D.pyDepthL:∀ l:List D,PyData.depthAll (D.pyL l)≤D.depthL l+1
 | []=>by simp[D.pyL,PyData.depthAll]
 | d :: r=>by have a:=D.pyDepth d;have b:=D.pyDepthL r;simp only[D.pyL,PyData.depthAll,D.depthL];omega
end
section
variable {X:Cx}{pins:List (Addr × Obj)}{σ:St}{H:Hp}{s:Shared}
mutual
theorem j2u (I:Inv X pins σ H s):∀ (d:D) {v:V}{u:Value},Rep H d v→RelV v u→d.eqOk=true→∃ as,Reads s.heap u d.py as
 | .non,v,u,h,r,_=>by unfold Rep at h;subst h;cases (show u=Value.none from r);exact⟨_,.none⟩
 | .bl b,v,u,h,r,_=>by unfold Rep at h;subst h;cases (show u=Value.bool b from r);exact⟨_,.bool b⟩
 | .int i,v,u,h,r,_=>by unfold Rep at h;subst h;obtain⟨t,rfl⟩:=r;exact⟨_,.int i t⟩
 | .str x,v,u,h,r,_=>by unfold Rep at h;subst h;obtain⟨t,rfl⟩:=r;exact⟨_,.str x t⟩
 | .tup l,v,u,h,r,ok=>by
  unfold Rep at h
  obtain⟨p,xs,rfl,hp,hl⟩:=h
  cases (show u=Value.ref p from r)
  obtain⟨its,rv,ht,hz⟩:=I.tuple (SqT.of (K:=X.K) hp)
  obtain⟨as,ra⟩:=readsL_of I l hl rv (by simpa[D.eqOk] using ok)
  obtain⟨o,e,c,n,dt⟩:=ht
  exact⟨as,.tuple e c dt (by simpa using ra)⟩
 | .lst l,v,u,h,r,ok=>by
  unfold Rep at h
  obtain⟨p,xs,rfl,hp,hl⟩:=h
  cases (show u=Value.ref p from r)
  obtain⟨its,rv,ht,hz⟩:=I.list (SqL.of (K:=X.K) hp)
  obtain⟨as,ra⟩:=readsL_of I l hl rv (by simpa[D.eqOk] using ok)
  obtain⟨o,e,c,n,dt⟩:=ht.isList
  exact⟨_,.list e c dt (by simpa using ra)⟩
 | .dct,v,u,h,r,ok=>by simp[D.eqOk] at ok
theorem readsL_of (I:Inv X pins σ H s):∀ (l:List D) {vs:List V}{us:List Value},RepL H l vs→Vals vs us→D.eqOkL l=true→∃ as,ReadsAll s.heap us (D.pyL l) as
 | [],vs,us,h,r,_=>by unfold RepL at h;subst h;cases r;exact⟨_,.nil⟩
 | d :: l,vs,us,h,r,ok=>by
  unfold RepL at h
  obtain⟨x,t,rfl,hd,hl⟩:=h
  simp only[D.eqOkL,Bool.and_eq_true] at ok
  cases r with
  | cons r1 r2 =>
   obtain⟨as,a1⟩:=j2u I d hd r1 ok.1
   obtain⟨bs,b1⟩:=readsL_of I l hl r2 ok.2
   exact⟨_,.cons a1 b1⟩
end
def eqD (a b:D):Bool:=PyData.eqv a.py b.py
def rEqD (neg:Bool):R2:=fun x y H Q=>∃ a b,Rep H a x∧Rep H b y∧a.eqOk=true∧b.eqOk=true∧a.depth≤20∧Q (.bl (if neg then !eqD a b else eqD a b)) H
def rEqU:R2:=fun x y H Q=>rEq x y H Q∨rEqD false x y H Q
def rNeU:R2:=fun x y H Q=>rNe x y H Q∨rEqD true x y H Q
theorem op_eqD {k:Nat} (hr:Room k X.A):OpR X (compareOp .Eq) (rEqD false):=by
 intro pins s σ H x y v u Q I rx ry h
 obtain⟨a,b,ha,hb,oa,ob,hd,q⟩:=h
 obtain⟨as,r1⟩:=j2u I a ha rx oa
 obtain⟨bs,r2⟩:=j2u I b hb ry ob
 have h1:=D.pyDepth a
 exact SeqAt.compareEq_reads r1 r2 (D.canLay a oa) (D.canLay b ob) (by have:=hr.units;omega) ⟨.bl (eqD a b),H,I,rfl,q⟩
theorem oEq {k:Nat} (hr:Room k X.A):OpR X (compareOp .Eq) rEqU:=op_eq.or (op_eqD hr)
end
section
variable {X:Cx}
def jgx (K:PySem.W.Frag):R2:=fun x y H Q=>∃ a b xs ys,x=.ref a∧y=.ref b∧SqT K H a xs∧SqT K H b ys∧xs.length+ys.length≤1000000 ∧
 (xs=[]→Q (.ref b) H)∧(xs≠[]→ys=[]→Q (.ref a) H)∧(xs≠[]→ys≠[]→∀ p,H p=none→Q (.ref p) (upd H p (.tup (xs++ys))))
theorem jdx:OpR X (binaryOp .Add) (jgx X.K):=by
 intro pins s σ H x y v u Q I rx ry h
 obtain⟨a,b,xs,ys,rfl,rfl,ha,hb,hl,q0,q1,q2⟩:=h
 cases rx
 cases ry
 obtain⟨is1,r1,t1,z1⟩:=I.tuple ha
 obtain⟨is2,r2,t2,z2⟩:=I.tuple hb
 have l1:=r1.length
 have l2:=r2.length
 have hz:is1.length+is2.length≤sizeLine:=by rw[sizeLine_eq];omega
 by_cases e:is1=[]
 ·subst e
  have ex:xs=[]:=List.length_eq_zero_iff.mp (by simpa using l1)
  obtain⟨⟨cls,dd,data,sl⟩,ho,hc,n,hd⟩:=id t1
  obtain⟨⟨cls2,dd2,data2,sl2⟩,ho2,hc2,n2,hd2⟩:=id t2
  simp only at hc hd hc2 hd2
  subst hc hd hc2 hd2
  exact concat_meets ⟨_,ho,rfl⟩ ⟨_,ho2,rfl⟩ noFill_tuple_add seq_tuple_add PySem.F.slot_tuple_add PySem.F.entry_tuple_add (PySem.F.args_tuple_add_2 _ _)
   (tuple_addW0 a b _ is2.toArray n n2 dd dd2 sl sl2 (by simp)) ⟨ho,ho2,⟨.ref b,H,I,rfl,q0 ex⟩⟩
 ·have ex:xs≠[]:=fun z=>e (List.length_eq_zero_iff.mp (by rw[← l1,z];rfl))
  refine HT.cat_tup t1 t2 e (fun w=>⟨.ref a,H,I,rfl,q1 ex (List.length_eq_zero_iff.mp (by rw[l2,w];rfl))⟩) (fun w=>?_) hz
  have ey:ys≠[]:=fun z=>w (List.length_eq_zero_iff.mp (by rw[← l2,z];rfl))
  refine⟨.ref s.heap.objs.size,_,I.laid (t':=s.toks) (fun b o e=>Heap.get?_push_of_some _ e) (Nat.le_refl _) (show ObjOk X.prog X.w _ _ _ (.tup (xs++ys)) from⟨by rw[List.length_append];omega,is1++is2,r1.append r2,TupN.new _ _⟩),rfl,q2 ex ey _ (I.hok.fresh (Nat.le_refl _))⟩
def jgy (K:PySem.W.Frag):R2:=fun x y H Q=>(rI0 (fun i j=>.int (i+j)) x y H Q∨rCat x y H Q)∨jgx K x y H Q
theorem oAddV:OpR X (binaryOp .Add) (jgy X.K):=(op_add.or op_cat).or jdx
end
section
variable {K:PySem.W.Frag}{σ:St}{H:Hp}{Q:VK}{D:Ends}
theorem jgz {i j:Int} (q:Q (.int (i+j)) H):jgy K (.int i) (.int j) H Q:=.inl (.inl ⟨i,j,rfl,rfl,q⟩)
theorem r_catL {l b:Addr}{xs zs:List V} (h1:H l=some (.lst xs)) (h2:H b=some (.lst zs)) (hl:xs.length+zs.length≤1000000) (q:∀ p H',H p=none→H' p=some (.lst (xs++zs))→Ext H H'→Q (.ref p) H'):jgy K (.ref l) (.ref b) H Q :=
 .inl (.inr ⟨l,b,xs,zs,rfl,rfl,h1,h2,Nat.le_trans hl (by rw[sizeLine_eq];decide),fun p n=>q p _ n j04 (j0g n)⟩)
theorem r_catT {l b:Addr}{xs zs:List V} (h1:H l=some (.tup xs)) (h2:H b=some (.tup zs)) (hl:xs.length+zs.length≤1000000) (q:∀ p H',H' p=some (.tup (xs++zs))→Ext H H'→Q (.ref p) H'):jgy K (.ref l) (.ref b) H Q :=
 .inr ⟨l,b,xs,zs,rfl,rfl,SqT.of h1,SqT.of h2,hl,fun e=>q b H (by rw[e];exact h2) Ext.rfl',fun _ e=>q l H (by rw[e,List.append_nil];exact h1) Ext.rfl',fun _ _ p n=>q p _ j04 (j0g n)⟩
theorem r_sl {r:V→Option Int→Option Int→Hp→VK→Prop}{te:TE}{tl th:TO} (q:te σ H fun x H1=>tl σ H1 fun l H2=>th σ H2 fun u H3=>r x l u H3 Q):tSl r te tl th σ H Q:=q
theorem jdy {R:Option Int→Hp→Prop} (q:R none H):jc9 σ H R:=q
def rPart (x:V) (R:Option Int→Hp→Prop) (H:Hp):Prop:=∃ i,x=.int i∧R (some i) H
theorem r_part {te:TE}{R:Option Int→Hp→Prop} (q:te σ H fun x H1=>rPart x R H1):tPart te σ H R:=q
theorem jh0 {i:Int}{R:Option Int→Hp→Prop} (q:R (some i) H):rPart (.int i) R H:=⟨i,rfl,q⟩
theorem r_slL {p:Addr}{xs:List V}{lo hi:Option Int} (h:H p=some (.lst xs)) (q:∀ l H',H l=none→H' l=some (.lst (cutV xs lo hi))→Ext H H'→Q (.ref l) H'):rSlU K (.ref p) lo hi H Q:=.inr ⟨p,xs,rfl,SqL.of h,fun l n=>q l _ n j04 (j0g n)⟩
theorem jle {p:Addr}{xs:List V}{lo hi:Option Int} (h:H p=some (.tup xs)) (nw:¬ (HT.sIx xs.length 0 lo=0∧HT.sIx xs.length xs.length hi=xs.length)) (q:∀ l H',H l=none→H' l=some (.tup (cutV xs lo hi))→Ext H H'→Q (.ref l) H'):rSlU K (.ref p) lo hi H Q:=.inl ⟨p,xs,rfl,SqT.of h,nw,fun l n=>q l _ n j04 (j0g n)⟩
theorem r_zip2 {ta:TA}{R:It→Hp→Prop} (q:ta σ H fun vs H1=>∃ p q xs ys c d,vs=[.ref p,.ref q]∧SqE K H1 p xs c∧SqE K H1 q ys d∧R (Itz2 K c d p q) H1):iZip2 K ta σ H R:=q
theorem jb1 {p:Addr}{ns:List Int} (h:H p=some (.tup (ns.map V.int))) (hl:ns.length < 64) (q:∀ l (ns':List Int) H',H l=none→ns'.Perm ns→ns'.Pairwise (·≤·)→H' l=some (.lst (ns'.map V.int))→Ext H H'→Q (.ref l) H'):j8s K [.ref p] H Q :=
 ⟨p,ns,true,rfl,SqT.of h,hl,fun l ns' n a b=>q l ns' _ n a b j04 (j0g n)⟩
theorem r_eqUI {i j:Int} (q:Q (.bl (decide (i=j))) H):rEqU (.int i) (.int j) H Q:=.inl (r_eqI q)
theorem r_eqUB {i j:Bool} (q:Q (.bl (decide (i=j))) H):rEqU (.bl i) (.bl j) H Q:=.inl (r_eqB q)
theorem r_eqUS {i j:Str} (q:Q (.bl (decide (i=j))) H):rEqU (.str i) (.str j) H Q:=.inl (r_eqS q)
theorem r_eqD {x y:V}{a b:L2.D} (ha:Rep H a x) (hb:Rep H b y) (oa:a.eqOk=true) (ob:b.eqOk=true) (hd:a.depth≤20) (q:Q (.bl (eqD a b)) H):rEqU x y H Q:=.inr ⟨a,b,ha,hb,oa,ob,hd,q⟩
theorem r_inT {p:Addr}{x:V}{xs:List V} (h:H p=some (.tup xs)) (fx:j5f x=true) (fl:xs.all j5f=true) (q:Q (.bl (inV x xs)) H):rInU K false x (.ref p) H Q:=⟨p,xs,rfl,.inr (SqT.of h),fx,fl,q⟩
theorem jdz {p:Addr}{x:V}{xs:List V} (h:H p=some (.tup xs)) (fx:j5f x=true) (fl:xs.all j5f=true) (q:Q (.bl (!inV x xs)) H):rInU K true x (.ref p) H Q:=⟨p,xs,rfl,.inr (SqT.of h),fx,fl,q⟩
theorem j8t {te:TE}{Y:V→Hp→Prop}{N:Hp→Prop} (q:te σ H Y):j7j [] σ H fun b H3=>if b=true then te σ H3 Y else N H3:=by
 show (if true=true then te σ H Y else N H)
 rw[if_pos rfl]
 exact q
theorem je0 {t:TT}{R:Bool→Hp→Prop} (q:t σ H fun b H1=>if b=true then R true H1 else R false H1):j7j [t] σ H R:=q
end
theorem j3y (ns:List Int):(ns.map V.int).all j5f=true:=by
 rw[List.all_eq_true]
 intro x hx
 obtain⟨i,_,rfl⟩:=List.mem_map.mp hx
 rfl
theorem j5o (i:Int) (ns:List Int):inV (.int i) (ns.map V.int)=decide (i∈ns):=by
 unfold inV
 rw[List.any_map,Bool.eq_iff_iff,List.any_eq_true,decide_eq_true_iff]
 constructor
 ·rintro⟨x,hx,e⟩
  have:x=i:=by simpa[eqV] using e
  exact this ▸ hx
 ·intro h
  exact⟨i,h,by simp[eqV]⟩
theorem j5p:∀ ns ms:List Int,PyData.eqvAll (D.pyL (ns.map D.int)) (D.pyL (ms.map D.int))=decide (ns=ms)
 | [],[]=>by simp[D.pyL,PyData.eqvAll]
 | [],_ :: _=>by simp[D.pyL,PyData.eqvAll]
 | _ :: _,[]=>by simp[D.pyL,PyData.eqvAll]
 | a :: r,b :: t=>by
  simp only[List.map_cons,D.pyL,PyData.eqvAll,D.py,PyData.eqv,j5p r t]
  rw[Bool.eq_iff_iff]
  simp
theorem j8u (ns ms:List Int):eqD (.lst (ns.map D.int)) (.lst (ms.map D.int))=decide (ns=ms):=by
 unfold eqD;simp only[D.py,PyData.eqv];exact j5p ns ms
theorem j8v (ns ms:List Int):eqD (.tup (ns.map D.int)) (.tup (ms.map D.int))=decide (ns=ms):=by
 unfold eqD;simp only[D.py,PyData.eqv];exact j5p ns ms
theorem j2m (ns:List Int):D.eqOkL (ns.map D.int)=true:=by
 induction ns with
 | nil=>rfl
 | cons n r ih=>show (D.eqOk (.int n) && D.eqOkL (r.map D.int))=true;rw[ih];rfl
theorem Rep.tupInts {H:Hp}{p:Addr}{ns:List Int} (h:H p=some (.tup (ns.map V.int))):Rep H (.tup (ns.map D.int)) (.ref p):=Rep.tupI h (RepL.ints ns)
theorem Rep.lstInts {H:Hp}{p:Addr}{ns:List Int} (h:H p=some (.lst (ns.map V.int))):Rep H (.lst (ns.map D.int)) (.ref p):=Rep.lstI h (RepL.ints ns)
theorem jh1 {H:Hp}{Q:VK}{p q:Addr}{ns ms:List Int} (h1:H p=some (.lst (ns.map V.int))) (h2:H q=some (.lst (ms.map V.int))) (k:Q (.bl (decide (ns=ms))) H):rEqU (.ref p) (.ref q) H Q :=
 r_eqD (Rep.lstInts h1) (Rep.lstInts h2) (j2m _) (j2m _) (by show D.depthL _+1≤20;rw[j3j];decide) (by rw[j8u];exact k)
theorem jh2 {H:Hp}{Q:VK}{p q:Addr}{ns ms:List Int} (h1:H p=some (.tup (ns.map V.int))) (h2:H q=some (.tup (ms.map V.int))) (k:Q (.bl (decide (ns=ms))) H):rEqU (.ref p) (.ref q) H Q :=
 r_eqD (Rep.tupInts h1) (Rep.tupInts h2) (j2m _) (j2m _) (by show D.depthL _+1≤20;rw[j3j];decide) (by rw[j8v];exact k)
theorem j3m {ns:List Int}{i:Nat}{x:V} (h:(ns.map V.int)[i]?=some x):∃ n,ns[i]?=some n∧x=.int n:=by
 rw[List.getElem?_map] at h
 cases e:ns[i]? with
 | none=>rw[e] at h;cases h
 | some n=>rw[e] at h;cases h;exact⟨n,rfl,rfl⟩
theorem j2v {ns:List Int}{k:Int} (h0:0≤k) (h1:k < ns.length):atI (ns.map V.int) k=some (.int (ns.getD k.toNat 0)):=by
 refine j3k h0 ?_
 rw[List.getElem?_map,List.getElem?_eq_getElem (by omega),List.getD_eq_getElem?_getD,List.getElem?_eq_getElem (by omega)]
 rfl
structure FunD (K:PySem.W.Frag) (x qual:Str) (st:Stmt) (f:Addr) (fd:FuncData) (ds:List Value):Prop where
 ex:∃ (oc:Value) (od:Option Addr) (T:Addr) (kV doc pm:Value) (an:Option Addr) (cdv ct:Value) (osl:Array (Option Value)) (tc:Value) (td:Option Addr) (tn:Nat) (tsl:Array (Option Value)),
  fd=PySem.W.fnOf x qual (j0b st) (j0a st) (j01 st) (.ref T) kV doc pm an cdv ct∧K.lookup f=some ⟨oc,od,.func fd,osl⟩∧PySem.W.codeIn K cdv qual=true∧K.lookup T=some ⟨tc,td,.seq ds.toArray tn,tsl⟩
 kp:PySem.W.keepIn K (.ref f)=true
section
variable {P:Program}{w:World}{K:PySem.W.Frag}{mg:Str→Option Value}{base:Heap}{ds:List Value}
theorem FunD.okU {x qual:Str}{st:Stmt}{f:Addr}{fd:FuncData}{N ps:List Str}{k:Nat}{sp:Sp} (F:FunD K x qual st f fd ds) (S:FnScope N ps (j01 st)) (len:∀ vs H Q E,sp vs H Q E→vs.length=ps.length)
  (hbody:∀ (cdv:Value) (A:Around) (outer:List Env) (s:Shared) (H:Hp) (vs:List V) (Q:VK) (E:XK),Room k (A.deeper (envOfC qual (j01 st) s.heap.objs.size f cdv))→sp vs H Q E →
   ∃ t,PSs (cxOf (CXU P w) P w K mg base N qual (j01 st) f cdv A outer s H E).nox (j0a st) t∧t { nx:=fun _ H'=>Q .non H',rt:=Q } (start N vs) H):FnOk P w K mg base (CXU P w) (k+1) f fd ps sp:=by
 obtain⟨oc,od,T,kV,doc,pm,an,cdv,ct,osl,tc,td,tn,tsl,rfl,lk,hcd,_⟩:=F.ex
 refine jjb lk hcd S len fun A outer s H vs Q E hr hsp=>?_
 obtain⟨t,h,q⟩:=hbody cdv A outer s H vs Q E hr hsp
 exact⟨t,h.nox,q⟩
theorem FunD.binds {x qual:Str}{st:Stmt}{f:Addr}{fd:FuncData}{ps:List Str}{es:List Value} (F:FunD K x qual st f fd ds)
  (h:∀ (T:Addr) (kV doc pm:Value) (an:Option Addr) (cdv ct:Value) (us:List Value),(us++es).length=ps.length→∃ k:Option (Array Value)→Sem (List (Str × Value)),bindArgs (PySem.W.fnOf x qual (j0b st) (j0a st) (j01 st) (.ref T) kV doc pm an cdv ct) ⟨us,[]⟩=(seqItems? (.ref T) >>= k)∧k (some ds.toArray)=pure (ps.zip (us++es))):Binds K fd ps es:=by
 obtain⟨oc,od,T,kV,doc,pm,an,cdv,ct,osl,tc,td,tn,tsl,rfl,lk,hcd,hT⟩:=F.ex
 intro s us KX hl
 obtain⟨k,h1,h2⟩:=h T kV doc pm an cdv ct us hl
 exact PySem.W.binds_K (T:=T) KX rfl hT rfl h1 h2
theorem jh3 {x qual:Str}{st:Stmt}{f T:Addr}{oc tc:Value}{od an td:Option Addr}{osl tsl:Array (Option Value)}{tn:Nat}{kV doc pm cdv ct:Value} (l:K.lookup f=some ⟨oc,od,.func (PySem.W.fnOf x qual (j0b st) (j0a st) (j01 st) (.ref T) kV doc pm an cdv ct),osl⟩)
  (c:PySem.W.codeIn K cdv qual=true) (k:PySem.W.keepIn K (.ref f)=true) (t:K.lookup T=some ⟨tc,td,.seq ds.toArray tn,tsl⟩):FunD K x qual st f (PySem.W.fnOf x qual (j0b st) (j0a st) (j01 st) (.ref T) kV doc pm an cdv ct) ds :=
 ⟨⟨oc,od,T,kV,doc,pm,an,cdv,ct,osl,tc,td,tn,tsl,rfl,l,c,t⟩,k⟩
end
structure IsC (K:PySem.W.Frag) (C B:Addr):Prop where
 ha:PySem.W.findIn K (.ref C) "__class__"=some (some (.builtin "object.__class__"))
 hn:PySem.W.specialIn K (.builtin "object.__class__") "__get__"=some (some (.builtin "getset_descriptor.__get__"))
 htk:PySem.W.takesIn K (.builtin "object.__class__")=some true
 hm:PySem.W.mroIn K C (.type "object")=some true
 ki:PySem.W.kitOne K (.ref C) (.ref B)=some true
section
variable {K:PySem.W.Frag}{α β γ:Type}{te:TE}{acc:Addr}{fr:St}{H1:Hp}{R:Hp→Prop}
theorem j2w (P:Int→Prop) {n:Nat}{u:Option V} (hz:n≤1000000) (hn:H1 acc=none)
  (turn:∀ (i:Nat) H (Y:V→Hp→Prop),i < n→Ext H1 H→(∀ x H',P x→Ext H H'→Y (.int x) H')→te (some (.int (i:Nat)) :: fr) H Y)
  (fin:∀ (xs:List Int) H,xs.length=n→(∀ x∈xs,P x)→Ext H1 H→H acc=some (.lst (xs.map V.int))→R H):ja9 (Itr 0 n) (ja7 0) [] te acc (u :: fr) H1 R:=by
 refine j1e hz hn (fun j ys _=>∃ xs:List Int,ys=xs.map V.int∧xs.length=j∧∀ x∈xs,P x) ⟨[],rfl,rfl,by simp⟩ (fun _ _ _ _ _ h=>h) (fun j ys H _ ⟨xs,h,l,_⟩=>by rw[h,List.length_map];omega) ?_ ?_
 ·rintro j ys H hj e ⟨xs,rfl,hl,hp⟩ Y N hY hN
  rw[show ((0:Int)+(j:Nat))=(j:Nat) by omega]
  refine j8t (turn j H Y hj e fun x H' hx e'=>hY _ _ e' ⟨xs++[x],by simp,by simp[hl],fun y hy=>?_⟩)
  rcases List.mem_append.mp hy with z | z
  ·exact hp y z
  ·rw[List.mem_singleton.mp z];exact hx
 ·rintro ys H e ha ⟨xs,rfl,hl,hp⟩
  exact fin xs H hl hp e ha
end
section
variable {X:Cx}
open Classical in
theorem op_neD {k:Nat} (hr:Room k X.A):OpR X (compareOp .NotEq) (rEqD true):=by
 intro pins s σ H x y v u Q I rx ry h
 obtain⟨a,b,ha,hb,oa,ob,hd,q⟩:=h
 obtain⟨as,r1⟩:=j2u I a ha rx oa
 obtain⟨bs,r2⟩:=j2u I b hb ry ob
 have h1:=D.pyDepth a
 exact SeqAt.compareNe_reads r1 r2 (D.canLay a oa) (D.canLay b ob) (by have:=hr.units;omega) ⟨.bl (!eqD a b),H,I,rfl,q⟩
theorem oNe {k:Nat} (hr:Room k X.A):OpR X (compareOp .NotEq) rNeU:=jjy.or (op_neD hr)
end
section
variable {K:PySem.W.Frag}{σ:St}{H:Hp}{Q:VK}
theorem r_neD {x y:V}{a b:L2.D} (ha:Rep H a x) (hb:Rep H b y) (oa:a.eqOk=true) (ob:b.eqOk=true) (hd:a.depth≤20) (q:Q (.bl (!eqD a b)) H):rNeU x y H Q:=.inr ⟨a,b,ha,hb,oa,ob,hd,q⟩
end
section
variable {X:Cx}{pins:List (Addr × Obj)}{σ:St}{H:Hp}{s:Shared}{h':Heap}{n:Nat}
open Classical in
theorem Inv.passedN (I:Inv X pins σ H s) (hs:X.s₀.heap.objs.size≤n) (hn:∀ p∈X.pn++pins,p.1 < n) (u:Pass (frs X.stack) n H s.heap h'):Inv X pins σ H { s with heap:=h' }:=by
 let ch:=(List.range s.heap.objs.size).filter fun b=>decide (n≤b∧H b=none∧∃ o vs,s.heap.get? b=some o∧o.data=.fields vs)
 have out:∀ b o,s.heap.get? b=some o→b∉ch→b < n∨H b≠none∨∀ vs,o.data≠.fields vs:=fun b o e hb=>by
  by_cases h1:b < n
  ·exact .inl h1
  by_cases h2:H b≠none
  ·exact .inr (.inl h2)
  refine .inr (.inr fun vs q=>hb (List.mem_filter.mpr ⟨List.mem_range.mpr (Heap.lt_size e),decide_eq_true ⟨Nat.le_of_not_lt h1,Classical.not_not.mp h2,o,vs,e,q⟩⟩))
 refine I.call (ch:=ch) (g':=s.gens) (d':=s.drawn) (t':=s.toks) ⟨fun b o e z hb hx=>u.keep b o e hb (out b o e hx),fun b o e z hb hx=>u.slot b o e hb,fun _ _ _ z _=>z,fun b o e _=>u.there b o e,fun _ _ q=>q,fun _ _ _ q=>q,fun _ ps q=>⟨#[],by rw[q];simp⟩⟩ (fun b o e=>?_) I.bare fun b hb=>?_
 ·refine (I.hok b o e).stay (fun c w hc q=>?_) (fun _ q=>q) fun _ _ q=>q
  have tr:H c≠none:=by
   rcases hc with rfl | hc
   ·rw[e];simp
   ·rw[hc];simp
  exact u.keep c w q (fun z=>tr (I.stkFree c z)) (.inr (.inl tr))
 ·obtain⟨h1,_,o,vs,e,d⟩:=of_decide_eq_true (List.mem_filter.mp hb).2
  refine⟨.inr (Nat.le_trans hs h1),fun q=>?_,fun x c hc q=>?_,fun p hp q=>?_⟩
  ·subst q
   obtain⟨m,⟨o2,es,ep,e2,d2,_⟩,_⟩:=I.loc
   rw[e] at e2;cases e2
   rw[d] at d2;cases d2
  ·subst q
   obtain⟨v,o2,e2,d2⟩:=I.cell x c hc
   rw[e] at e2;cases e2
   rw[d] at d2;cases d2
  ·have:=hn p hp
   rw[q] at this
   exact absurd h1 (Nat.not_le.mpr this)
theorem Inv.heldN {a:Addr}{C:Value}{dx:Option Addr}{fl:Value} (I:Inv X pins σ H s) (hs:X.s₀.heap.objs.size≤n) (hn:∀ p∈X.pn++pins,p.1 < n) (er:Err n H s.heap a C dx fl):Inv X pins σ (upd H a (errH a C dx)) s:=by
 obtain⟨new,un,oe,vs,ea,ec,ed,edat,sz,hd⟩:=er
 have keep:∀ c u,H c=some u→upd H a (errH a C dx) c=some u:=fun c u q=>by
  rw[j08 fun z=>by rw[z,un] at q;cases q];exact q
 have nl:X.env.locals≠a:=fun q=>by
  obtain⟨m,⟨o2,es,ep,e2,d2,_⟩,_⟩:=I.loc
  rw[q,ea] at e2;cases e2
  rw[edat] at d2;cases d2
 have nc:∀ x c,X.env.cells.lookup x=some c→c≠a:=fun x c hc q=>by
  obtain⟨v,o2,e2,d2⟩:=I.cell x c hc
  rw[q,ea] at e2;cases e2
  rw[edat] at d2;cases d2
 refine⟨I.ok,I.os,I.bare,⟨I.base.keep,I.base.slot,fun b o e z hx=>?_,I.base.there,fun b xs q=>keep b _ (I.base.tups b xs q),fun b o u q=>keep b _ (I.base.frzs b o u q),fun b ps q=>?_⟩,
  I.loc,I.cell,by rw[j08 nl];exact I.free,fun x c h=>by rw[j08 (nc x c h)];exact I.freeC x c h,fun p hp=>?_,fun b o e=>?_,I.len⟩
 ·rw[j08 fun q=>?_]
  ·exact I.base.free b o e z hx
  ·subst q;exact absurd (Heap.lt_size e) (Nat.not_lt.mpr (Nat.le_trans hs new))
 ·obtain⟨m,e⟩:=I.base.tbls b ps q
  exact⟨m,keep b _ e⟩
 ·obtain⟨p1,p2,p3,p4,p5⟩:=I.pin p hp
  refine⟨p1,?_,p3,p4,p5⟩
  rw[j08 fun q=>?_]
  ·exact p2
  ·have:=hn p hp;rw[q] at this;exact absurd new (Nat.not_le.mpr this)
 ·by_cases q:b=a
  ·subst q
   rw[j04] at e
   cases e
   exact⟨⟨oe,vs,ea,ec,ed,edat⟩,⟨oe,ea⟩,fun h1 h2 ⟨o,us,z1,z2⟩ k=>⟨o,us,k _ z1,z2⟩⟩
  ·rw[j08 q] at e
   exact (I.hok b o e).stay (fun c u _ z=>z) (fun c z=>keep c _ z) fun c xs z=>keep c _ z
end
def XP (X:Cx) (pins:List (Addr × Obj)) (σ:St) (E:XK) (e:Value) (s:Shared):Prop :=
 ∃ n H a C dx,e=.ref a∧X.s₀.heap.objs.size≤n∧(∀ p∈X.pn++pins,p.1 < n)∧Inv X pins σ H s∧Err n H s.heap a C dx .none∧E C dx H
section
variable {X:Cx}{k:Nat}{f C:Addr}{fd:FuncData}{ps:List Str}{sp:Sp}{dvs:List V}{ds:List Value}{E:XK}
theorem XP.of {pins:List (Addr × Obj)}{σ:St}{H:Hp}{s s':Shared}{e:Value} (I:Inv X pins σ H s) (h:CXE X.prog X.w X.stack H s E e s'):XP X pins σ E e s':=by
 obtain⟨a,C,dx,H',rfl,ho,hg,u,hok,er,q⟩:=h
 exact⟨_,H',a,C,dx,rfl,I.sz,fun p hp=>Heap.lt_size (I.pin p hp).1,I.call' (ch:=[]) ho u hok hg fun b z=>absurd z (by simp),er,q⟩
theorem jh4 {pins:List (Addr × Obj)}{σ:St}{H:Hp}{s:Shared}{Q:VK}{us:List Value}{vs:List V} (F:FnOk X.prog X.w X.K X.mg X.base (CXE X.prog X.w) k f fd ps sp) (hr:Room k X.A) (hb:Binds X.K fd ps ds) (hd:Vals dvs ds)
  (I:Inv X pins σ H s) (r:Vals vs us) (h:sp (vs++dvs) H Q E):wpAny (model X.prog X.w) X.A (call (.ref f) us) (EP X pins σ Q) (XP X pins σ E) s:=by
 have r2:Vals (vs++dvs) (us++ds):=r.append hd
 have hl:(us++ds).length=ps.length:=by rw[← r2.length];exact F.len _ _ _ _ h
 refine wpAny_call (codeAny_mono (F.run X.A X.stack s H ⟨us,[]⟩ (us++ds) (vs++dvs) Q E hr I.env0 (hb s us I.kIn hl) r2 h) fun r s' hq=>?_)
 cases r with
 | error e=>exact XP.of I hq
 | ok fl =>
  cases fl with
  | ret u=>exact I.after hq
  | next=>exact False.elim hq
  | brk=>exact False.elim hq
  | cont=>exact False.elim hq
end
def PEX (X:Cx) (e:Expr) (t:XK→TE):Prop:=∀ (pins:List (Addr × Obj)) (s:Shared) (σ:St) (H:Hp) (Q:VK) (E:XK),Inv X pins σ H s→t E σ H Q→wpAny (model X.prog X.w) X.A (eval e X.env) (EP X pins σ Q) (XP X pins σ E) s
def PSX (X:Cx) (st:Stmt) (t:XK→TS):Prop:=∀ (pins:List (Addr × Obj)) (s:Shared) (σ:St) (H:Hp) (D:Ends) (E:XK),Inv X pins σ H s→t E D σ H→wpAny (model X.prog X.w) X.A (exec st X.env) (SP X pins D) (XP X pins σ E) s
def PSXs (X:Cx) (st:List Stmt) (t:XK→TS):Prop:=∀ (pins:List (Addr × Obj)) (s:Shared) (σ:St) (H:Hp) (D:Ends) (E:XK),Inv X pins σ H s→t E D σ H→wpAny (model X.prog X.w) X.A (execs st X.env) (SP X pins D) (XP X pins σ E) s
section
variable {X:Cx}{k:Nat}{f C:Addr}{fd:FuncData}{ps:List Str}{sp:Sp}{dvs:List V}{ds:List Value}{x m:Str}{p pos apos:Pos}{e o:Expr}{es:List Expr}{ta:TE}{t:TA}
theorem pa_any {E':Value→Shared→Prop} (h:PA X.nox es t) (pos:Pos) {pins:List (Addr × Obj)}{s:Shared}{σ:St}{H:Hp}{Q:List V→Hp→Prop} (I:Inv X pins σ H s) (q:t σ H Q):wpAny (model X.prog X.w) X.A (spliced (backTo pos (starEach es X.env))) (AP X pins σ Q) E' s :=
 wpAny_mono (h pos pins s σ H Q (I.wish _) q) (fun _ _ ⟨v,H',I',r,q⟩=>⟨v,H',I'.unwish,r,q⟩) fun _ _ z=>False.elim z
theorem pt_any {E':Value→Shared→Prop}{tt:TT} (h:PT X.nox e tt) {pins:List (Addr × Obj)}{s:Shared}{σ:St}{H:Hp}{Q:Bool→Hp→Prop} (I:Inv X pins σ H s) (q:tt σ H Q):wpAny (model X.prog X.w) X.A (isTrue e X.env (eval e X.env)) (TP X pins σ Q) E' s :=
 wpAny_mono (h pins s σ H Q (I.wish _) q) (fun _ _ ⟨H',I',q⟩=>⟨H',I'.unwish,q⟩) fun _ _ z=>False.elim z
theorem j8w {te:XK→TE} (he:PEX X e te) (hs:swapsWith e none pos.line X.env=pure false:=by rfl):PSX X (.Expr e pos) (fun E=>jjt (te E)):=by
 intro pins s σ H D E I h
 exact wpAny_Expr_any (thn (he pins s σ H _ E I h) fun v s1 ⟨x,H1,I1,r1,q1⟩=>⟨σ,H1,I1,q1⟩) I.quiet hs
theorem psx_if {c:Expr}{a b:List Stmt}{tc:TT}{ti u:XK→TS} (hc:PT X.nox c tc) (ha:PSXs X a ti) (hb:PSXs X b u):PSX X (.If c a b pos) (fun E=>tIfS tc (ti E) (u E)):=by
 intro pins s σ H D E I h
 refine wpAny_If (thn (pt_any hc I h) fun d s1 ⟨H1,I1,q1⟩=>?_)
 cases d with
 | true=>exact ha pins s1 σ H1 D E I1 q1
 | false=>exact hb pins s1 σ H1 D E I1 q1
theorem j5q {st:Stmt}{ti:XK→TS} (h:PSX X st ti):PSXs X [st] ti:=by
 intro pins s σ H D E I q
 refine wpAny_execs_cons (wpAny_mono (h pins s σ H D E I q) (fun f s1 z=>?_) fun _ _ z=>z)
 cases f with
 | next=>exact wpAny_execs_nil z
 | brk=>exact z
 | cont=>exact z
 | ret u=>exact z
end
section
variable {M:Model}{A:Around}{E:Value→Shared→Prop}{s:Shared}{n:Nat}{H:Hp}{a:Addr}{C:Value}{dx:Option Addr}{fl:Value}
def jh5 (h:Heap) (a:Addr):Prop:=∃ oe vs T,h.get? a=some oe∧oe.data=.fields vs∧vs[1]?=some (.ref T)
theorem j4m {Q:Unit→Shared→Prop}{fs:List Addr} (x:Err n H s.heap a C dx fl) (nh:jh5 s.heap a) (nf:∀ b o vs,s.heap.get? b=some o→o.data=.fields vs→b∉fs)
  (h:∀ h',Pass fs n H s.heap h'→Err n H h' a C dx .none→jh5 h' a→Q () { s with heap:=h' }):wpAny M A (setFlight (.ref a) none) Q E s:=by
 obtain⟨new,un,oe,vs,ea,ec,ed,edat,sz,hd⟩:=x
 obtain⟨oe2,vs2,T2,ea2,ed2,e12⟩:=nh
 rw[ea] at ea2;cases ea2
 rw[edat] at ed2;cases ed2
 rcases hd with⟨e0,_⟩ | ⟨T,oT,ts,e1,nT,uT,neT,eT,dT,e3⟩
 ·rw[e0] at e12;cases e12
 have h3:3 < ts.size:=(Array.getElem?_eq_some_iff.mp e3).1
 have ea':(s.heap.update T (Obj.mapFields (·.setIfInBounds 3 .none))).get? a=some oe:=by rw[Heap.get?_update_other _ _ neT];exact ea
 refine wpAny_setFlight_none ea edat e1 eT dT h3 (h _ ⟨fun b o e _ hb=>?_,fun b o e hb=>?_,fun b o e=>?_⟩ ⟨new,un,oe,vs,ea',ec,ed,edat,sz,.inr ⟨T,_,_,e1,nT,uT,neT,Heap.get?_update_self _ eT (Obj.isFreed_of_fields (j0m _ dT)),j0m _ dT,by simp[h3]⟩⟩ ⟨oe,vs,T,ea',edat,e1⟩)
 ·rw[Heap.get?_update_other _ _ fun q=>?_]
  ·exact e
  ·subst q
   rw[e] at eT
   cases eT
   rcases hb with hb | hb | hb
   ·exact absurd nT (Nat.not_le.mpr hb)
   ·exact hb uT
   ·exact hb ts dT
 ·have q:T≠b:=fun q=>by subst q;exact nf T oT ts eT dT hb
  rw[Heap.get?_update_other _ _ q]
  exact⟨o.slots,e⟩
 ·by_cases q:T=b
  ·subst q;exact⟨_,Heap.get?_update_self _ eT (Obj.isFreed_of_fields (j0m _ dT))⟩
  ·exact⟨o,by rw[Heap.get?_update_other _ _ q];exact e⟩
end
structure Catch (K:PySem.W.Frag) (C L:Addr):Prop where
 ex:∃ bm bl,ErrC K C bm∧ErrC K L bl∧(Value.ref C :: bm).contains (.ref L)=true
theorem jh6 {M:Model}{A:Around}{E:Value→Shared→Prop}{K:PySem.W.Frag}{C L a:Addr}{s:Shared}{oe:Obj}{Q:Bool→Shared→Prop} (KX:K.In s.heap) (c:Catch K C L) (he:s.heap.get? a=some oe) (hcls:oe.cls=.ref C) (hq:Q true s) :
  wpAny M A (excMatches (.ref a) (.ref L)) Q E s:=by
 obtain⟨bm,bl,⟨⟨nm,q,N,bs,hdct,sn,sub,ab,col,dd,k0,k1,k2,k3,k5,newId,lk⟩,cb⟩,⟨⟨nm',q',N',bs',hdct',sn',sub',ab',col',dd',k0',k1',k2',k3',k5',newId',lk'⟩,cb'⟩,hs⟩:=c.ex
 have hC:=KX _ _ lk
 have hL:=KX _ _ lk'
 have hB:(Value.ref L :: bl).contains (.type "BaseException")=true:=by rw[List.contains_cons,cb',Bool.or_true]
 have f:=tc_notTuple
 obtain⟨h,g,d,t,os⟩:=s
 unfold excMatches
 repeat (first | (with_reducible refine wpAny_loadPart_at he ?_;rw[hcls]) | with_reducible refine wpAny_loadPart_at hL ?_ | (with_reducible refine wpAny_isSubtype_exc hL ?_;rw[hB]) | (with_reducible refine wpAny_isSubtype_exc hC ?_;rw[hs]) | wp_step)
 exact hq
section
variable {X:Cx}{pins:List (Addr × Obj)}{σ:St}{H:Hp}{s:Shared}
abbrev Cx.inEx (X:Cx) (a:Addr):Cx:={ X with A:=X.A.mark (some (.ref a)),calm:=false }
theorem Cx.Ok.inEx (ok:X.Ok) (a:Addr):(X.inEx a).Ok :=
 ⟨ok.mod,ok.kind,ok.glob,ok.blt,ok.above,ok.inj,ok.has,ok.cab,fun z=>Bool.noConfusion z,ok.frames,ok.stk,ok.exf,ok.bs,ok.bsz,ok.noex,ok.exfs,ok.funs,ok.frf⟩
theorem Inv.inEx (I:Inv X pins σ H s) (a:Addr):Inv (X.inEx a) pins σ H s:=⟨I.ok.inEx a,I.os,I.bare,I.base,I.loc,I.cell,I.free,I.freeC,I.pin,I.hok,I.len⟩
theorem Inv.outEx {a:Addr} (ok:X.Ok) (I:Inv (X.inEx a) pins σ H s):Inv X pins σ H s:=⟨ok,I.os,I.bare,I.base,I.loc,I.cell,I.free,I.freeC,I.pin,I.hok,I.len⟩
theorem Inv.gone {h':Heap}{i t':Nat}{x:Str}{v:Option Value}{m:Str→Option Value} (I:Inv X pins σ H s) (hN:X.N.Nodup) (hi:X.N[i]?=some x) (hm:s.heap.Ns X.env.locals m) (hn:h'.Ns X.env.locals (fun y=>if y=x then v else m y)) (hs:Heap.SameBut X.env.locals s.heap h'):Inv X pins (σ.set i none) H { s with heap:=h',toks:=t' }:=by
 obtain⟨m2,hn2,hl⟩:=id I.loc
 have em:∀ y,m2 y=m y:=fun y=>by
  obtain⟨o1,es1,ep1,g1,d1,_,f1⟩:=id hn2
  obtain⟨o2,es2,ep2,g2,d2,_,f2⟩:=id hm
  rw[g1] at g2;cases g2
  rw[d1] at d2;cases d2
  exact (f1 y).symm.trans (f2 y)
 obtain⟨oL,_,_,hoL,_⟩:=id hm
 have low:∀ b o,X.s₀.heap.get? b=some o→b≠X.env.locals:=fun b o e=>Nat.ne_of_lt (Nat.lt_of_lt_of_le (Heap.lt_size e) I.ok.above)
 refine⟨I.ok,I.os,I.bare,⟨fun b o e z hb hx=>(hs.2 b (low b o e)).trans (I.base.keep b o e z hb hx),fun b o e z hb hx=>?_,I.base.free,fun b o e hx=>?_,I.base.tups,I.base.frzs,I.base.tbls⟩,⟨_,hn,fun j y v' e1 e2 e3=>?_⟩,fun y c e=>?_,I.free,I.freeC,fun p hp=>?_,fun b o e=>?_,by rw[List.length_set];exact I.len⟩
 ·obtain⟨sl,e1⟩:=I.base.slot b o e z hb hx
  exact⟨sl,(hs.2 b (low b o e)).trans e1⟩
 ·obtain⟨o',e1⟩:=I.base.there b o e hx
  exact⟨o',(hs.2 b (low b o e)).trans e1⟩
 ·have hj:j≠i:=fun q=>by
   subst q
   rw[List.getElem?_set_self (by rw[I.len];exact (List.getElem?_eq_some_iff.mp e1).1)] at e2
   cases e2
  rw[List.getElem?_set_ne (Ne.symm hj)] at e2
  obtain⟨u',r',q⟩:=hl j y v' e1 e2 e3
  refine⟨u',r',?_⟩
  rcases q with⟨k,e⟩ | ⟨k,c,e,z⟩
  ·refine .inl ⟨k,?_⟩
   have:y≠x:=fun e=>hj (j5d hN e1 (e ▸ hi))
   show (if y=x then v else m y)=some u'
   rw[if_neg this,← em]
   exact e
  ·exact .inr ⟨k,c,e,z.sameBut hs (I.cne y c e)⟩
 ·obtain⟨w',z⟩:=I.cell y c e
  exact⟨w',z.sameBut hs (I.cne y c e)⟩
 ·obtain⟨e,z,ne,nf,d⟩:=I.pin p hp
  exact⟨(hs.2 p.1 ne).trans e,z,ne,nf,d⟩
 ·refine (I.hok b o e).stay (fun c w' hc q=>(hs.2 c ?_).trans q) (fun _ q=>q) fun _ _ q=>q
  rintro rfl
  rcases hc with rfl | hc
  ·rw[I.free] at e;cases e
  ·rw[I.free] at hc;cases hc
end
def Ends.gone (D:Ends) (i:Nat):Ends:={ nx:=fun σ H=>D.nx (σ.set i none) H,rt:=D.rt,bk:=fun σ H=>D.bk (σ.set i none) H,ct:=fun σ H=>D.ct (σ.set i none) H }
def tTry (K:PySem.W.Frag) (L:Addr) (i:Nat) (tb:XK→TS) (ts:Addr→TS):TS:=fun D σ H =>
 tb (fun C dx H'=>∃ c,C=.ref c∧Catch K c L∧∀ x,H' x=none→ts x (D.gone i) (σ.set i (some (.ref x))) (upd H' x (errH x C dx))) D σ H
theorem ps_try {X:Cx}{body suite:List Stmt}{b₀:Stmt}{x lx:Str}{i:Nat}{L:Addr}{tb:XK→TS}{ts:Addr→TS}{p0 pos pos':Pos} (O:Own X) (hN:X.N.Nodup) (hi:X.N[i]?=some x) (hk:X.env.scope.names.lookup x=some .local) (hg:Gl X lx) (hm:X.mg lx=some (.ref L))
  (hb:PSXs X body tb) (hs:∀ a,PSs (X.inEx a).nox (b₀ :: suite) (ts a)) (hdb:(lx == ("__debug__":Str))=false:=by decide) :
  PS X (.Try body [.ExceptHandler (some (.Name lx p0)) (some x) (b₀ :: suite) pos'] [] [] pos) (tTry X.K L i tb ts):=by
 intro pins s σ H D I h
 refine wpAny_Try_except (wpAny_mono (hb pins s σ H D _ I h) (fun f s1 z=>?_) fun e s1 z=>?_)
 ·cases f with
  | next=>exact wpAny_execs_nil z
  | brk=>exact z
  | cont=>exact z
  | ret u=>exact z
 obtain⟨n,H1,a,C,dx,rfl,hsz,hpn,I1,er,c,rfl,hc,q⟩:=z
 have fr:X.A.frames=some (X.env :: X.outer):=by rw[← O.stk];exact I.ok.frames
 have fs:∀ {σ':St}{H':Hp}{s':Shared},Inv X pins σ' H' s'→s'.heap.FunFrames X.base (X.env :: X.outer):=fun J=>by rw[← O.stk];exact J.stack
 refine j5k fr (fs I1) O.frm er (.inl rfl) (fun b hb=>I1.hok.fresh hb) fun h2 p2 er2 nh2=>?_
 rw[← O.stk] at p2
 have I2:=I1.passedN hsz hpn p2
 have nfr:∀ {σ':St}{H':Hp}{s':Shared},Inv X pins σ' H' s'→∀ b o vs,s'.heap.get? b=some o→o.data=.fields vs→b∉frs X.stack:=fun J b o vs e d hb=>by
  obtain⟨_,o0,e0,nf⟩:=J.stack.mem hb
  rw[e] at e0;cases e0
  exact nf vs d
 refine j4m (s:={ s1 with heap:=h2 }) (fs:=frs X.stack) er2 nh2 (nfr I2) fun h3 p3 er3 nh3=>?_
 have I3:=I2.passedN hsz hpn p3
 refine wpAny_handleBy_cons (codeAny_handlers_test (j3c (X:=X.inEx a) (I3.inEx a) hg hm ?_ hdb)) (by intro z;cases z)
 obtain⟨new3,un3,oe3,vs3,ea3,ec3,rest3⟩:=id er3
 refine jh6 I3.kIn hc ea3 ec3 ?_
 refine codeAny_handlers_suite_as (j4m (s:={ s1 with heap:=h3 }) (fs:=frs X.stack) er3 nh3 (nfr I3) fun h4 p4 er4 nh4=>?_)
 have I4:=(I3.passedN hsz hpn p4).heldN hsz hpn er4
 refine j3q (X:=X.inEx a) (I4.inEx a) hN hi (.inl hk) (v:=.ref a) rfl (fun s5 I5=>?_) (.inr hk)
 refine wpAny_mono (hs a pins s5 _ _ (D.gone i) (I5.wish _) (q a er4.un)) (fun f s6 z=>?_) fun _ _ z=>False.elim z
 have go:∀ {σ':St}{H':Hp}{s':Shared}{Q:Unit→Shared→Prop},Inv X pins σ' H' s'→(∀ s2,Inv X pins (σ'.set i none) H' s2→Q () s2)→wpAny (model X.prog X.w) X.A (do bindName X.env x .none;unbindBehindTheSuite X.env x pos') Q X.xe s':=fun J k=>by
  obtain⟨m,hm',_⟩:=id J.loc
  exact wpAny_nameGoes_keeps hk hm' (by rw[J.ok.kind];rfl) fun h' v hn hs'=>k _ (J.gone hN hi hm' hn hs')
 cases f with
 | next =>
  obtain⟨σ',H',J,k⟩:=z
  exact go (J.unwish.outEx I.ok) fun s2 J2=>⟨_,H',J2,k⟩
 | brk =>
  obtain⟨σ',H',J,k⟩:=z
  exact go (J.unwish.outEx I.ok) fun s2 J2=>⟨_,H',J2,k⟩
 | cont =>
  obtain⟨σ',H',J,k⟩:=z
  exact go (J.unwish.outEx I.ok) fun s2 J2=>⟨_,H',J2,k⟩
 | ret u =>
  obtain⟨v,σ',H',J,r,k⟩:=z
  exact go (J.unwish.outEx I.ok) fun s2 J2=>⟨v,_,H',J2,r,k⟩
open PySem.Builtin PySem.Builtin.ObjectAttr
section
variable {E:Value→Shared→Prop}{prog:Program}{w:World}{A:Around}{h:Heap}{os:OsState}{g:Array GenState}{d:Drawn}{t:Nat}
variable {nm q:Str}{N:Addr}{bs bm:List Value}{sn:List Str}{sub:List Value}{ab:Bool}{col:Option Bool}{dd:Option Addr}{k0 k1 k2 k3 k5:Option Value}{newId:String}{C a dx:Addr}{o:Obj}{name:Str}{v:Value}{m:Str→Option Value}{vs:Array Value}
theorem jb2 {tk:Tok}{Q:Fin→Shared→Prop} (ln:PySem.W.Looks (model prog w) h (typeLookup (.ref C) name) none)
  (hC:h.get? C=some (excClassObj nm q C N bs bm true sn sub ab col dd k0 k1 k2 k3 k5 newId)) (hx:h.get? a=some o) (hc:o.cls=.ref C) (hd:o.dict=some dx) (hf:o.data=.fields vs) (hn:h.Ns dx m) (hv:m name=some v) (hq:Q (.done (.ret v)) ⟨h,g,d,t,os⟩) :
  wpAny (model prog w) A (PySem.Builtin.«object.__getattribute__» ⟨[.ref a,.str name tk],[]⟩) Q E ⟨h,g,d,t,os⟩:=by
 unfold PySem.Builtin.«object.__getattribute__»
 repeat (first | (with_reducible refine wpAny_loadPart_at hx ?_;rw[hc]) | wp_step)
 show wpAny _ _ (typeLookup (.ref C) name) _ _ _
 refine ln _ _ _ _ (fun _ _ e=>e) ?_
 repeat (first | (with_reducible refine wpAny_loadPart_at hx ?_) | wp_step)
 rw[hf]
 unfold instanceDict
 repeat (first | (with_reducible refine wpAny_loadPart_at hx ?_) | wp_step)
 rw[hd,hc]
 repeat (first | (with_reducible refine wpAny_loadPart_at hC ?_) | (show wpAny _ _ (nsGet dx name) _ _ _;refine wpAny_nsGet (s:=⟨h,g,d,t,os⟩) hn ?_;rw[hv]) | wp_step)
 exact hq
theorem j7l {M:Model}{nameV:Value}{Q:Unit→Shared→Prop} (cb:bm.contains (.type "BaseException")=true) (hC:h.get? C=some (excClassObj nm q C N bs bm true sn sub ab col dd k0 k1 k2 k3 k5 newId)) (hx:h.get? a=some o) (hc:o.cls=.ref C) (hq:Q () ⟨h,g,d,t,os⟩) :
  wpAny M A (checkBuiltinCall "BaseException.__getattribute__" ⟨[.ref a,nameV],[]⟩) Q E ⟨h,g,d,t,os⟩:=by
 have e1:builtinKind "BaseException.__getattribute__"=some .slot:=by decide +kernel
 have e2:splitId "BaseException.__getattribute__"=some ("BaseException","__getattribute__"):=by decide +kernel
 have e3:(Value.ref C :: bm).contains (.type "BaseException")=true:=by rw[List.contains_cons,cb,Bool.or_true]
 have e4:=PySem.F.args_bexc_ga (.ref a) nameV
 simp only[checkBuiltinCall,e1,e2]
 refine wpAny_bind ?_
 unfold isInstance
 repeat (first | (with_reducible refine wpAny_loadPart_at hx ?_;rw[hc]) | (with_reducible refine wpAny_isSubtype_exc hC ?_;rw[e3]) | wp_step)
 exact hq
theorem jcf {tk:Tok}{fill expr:Bool}{Q:Value→Shared→Prop} (cb:bm.contains (.type "BaseException")=true) (lg:PySem.W.Looks (model prog w) h (typeLookup (.ref C) "__getattribute__") (some (.builtin "BaseException.__getattribute__"))) (lh:PySem.W.Looks (model prog w) h (typeLookup (.ref C) "__getattr__") none)
  (hC:h.get? C=some (excClassObj nm q C N bs bm true sn sub ab col dd k0 k1 k2 k3 k5 newId)) (hx:h.get? a=some o) (hc:o.cls=.ref C)
  (ent:∀ {A:Around}{E:Value→Shared→Prop}{Q:Fin→Shared→Prop},Q (.done (.ret v)) ⟨h,g,d,t,os⟩→wpAny (model prog w) A (PySem.Builtin.«object.__getattribute__» ⟨[.ref a,.str name tk],[]⟩) Q E ⟨h,g,d,t,os⟩)
  (hh:handedOut v=pure v) (hq:Q v ⟨h,g,d,t,os⟩):wpAny (model prog w) A (getAttrBy (.ref a) (.str name tk) fill expr) Q E ⟨h,g,d,t,os⟩:=by
 have ga:=PySem.F.excAttr_ValueError.ga
 have gb:=ga.bind (.ref a)
 have z0:(expr && onTheHeap (Value.builtin "BaseException.__getattribute__"))=false:=by cases expr <;> rfl
 have z1:(Value.builtin "BaseException.__getattribute__" == Value.builtin "object.__getattribute__")=false:=by decide +kernel
 have z2:(onTheHeap (Value.ref C) && Value.builtin "BaseException.__getattribute__" == Value.builtin "object.__getattribute__")=false:=by rw[z1];rfl
 unfold getAttrBy
 repeat (any_goals (first | (with_reducible refine wpAny_loadPart_at hx ?_;rw[hc]) | (show wpAny _ _ (typeLookup (.ref C) "__getattribute__") _ _ _;refine lg _ _ _ _ (fun _ _ e=>e) ?_) | (show wpAny _ _ (typeLookup (.ref C) "__getattr__") _ _ _;refine lh _ _ _ _ (fun _ _ e=>e) ?_) | rw[z2] | rw[z0] | assumption | wp_step))
 refine codeAny_call_builtin ga.plain PySem.F.entry_bexc_ga (j7l cb hC hx hc (ent ?_))
 show wpAny _ _ (handedOut v) _ _ _
 rw[hh]
 exact wpAny_pure hq
theorem je1 {expr:Bool}{Q:Value→Shared→Prop} (cb:bm.contains (.type "BaseException")=true) (lg:PySem.W.Looks (model prog w) h (typeLookup (.ref C) "__getattribute__") (some (.builtin "BaseException.__getattribute__"))) (lh:PySem.W.Looks (model prog w) h (typeLookup (.ref C) "__getattr__") none)
  (ln:PySem.W.Looks (model prog w) h (typeLookup (.ref C) name) none) (hC:h.get? C=some (excClassObj nm q C N bs bm true sn sub ab col dd k0 k1 k2 k3 k5 newId)) (hx:h.get? a=some o) (hc:o.cls=.ref C) (hd:o.dict=some dx) (hf:o.data=.fields vs) (hn:h.Ns dx m) (hv:m name=some v)
  (hh:handedOut v=pure v) (hq:∀ t',Q v ⟨h,g,d,t',os⟩):wpAny (model prog w) A (getAttr (.ref a) name expr) Q E ⟨h,g,d,t,os⟩:=by
 unfold getAttr
 refine wpAny_bind ?_
 unfold mkText
 repeat (any_goals (first | (show wpAny _ _ (getAttrBy _ _ _ _) _ _ _;exact jcf cb lg lh hC hx hc (fun z=>jb2 ln hC hx hc hd hf hn hv z) hh (hq _)) | wp_step))
end
structure ErrI (K:PySem.W.Frag) (C:Addr):Prop where
 at_:∃ nm q N bs bm sn sub ab col dd k0 k1 k2 k3 k5 newId,K.lookup C=some (excClassObj nm q C N bs bm true sn sub ab col dd k0 k1 k2 k3 k5 newId)∧bm.contains (.type "BaseException")=true
 ga:PySem.W.findIn K (.ref C) "__getattribute__"=some (some (.builtin "BaseException.__getattribute__"))
 gh:PySem.W.findIn K (.ref C) "__getattr__"=some none
 ca:PySem.W.findIn K (.ref C) "__class__"=some (some (.builtin "object.__class__"))
 cn:PySem.W.specialIn K (.builtin "object.__class__") "__get__"=some (some (.builtin "getset_descriptor.__get__"))
 ct:PySem.W.takesIn K (.builtin "object.__class__")=some true
 cm:PySem.W.mroIn K C (.type "object")=some true
section
variable {K:PySem.W.Frag}{C a:Addr}{oe od:Obj}
theorem jb3 {prog:Program}{w:World}{A:Around}{E:Value→Shared→Prop}{Q:Option Value→Shared→Prop}{s:Shared} (e:ErrI K C) (X:K.In s.heap) (I:PySem.W.InstAt s.heap a oe C (some od)) (hq:Q (some (.ref C)) { s with toks:=s.toks+1 }) :
  wpAny (model prog w) A (getAttr? (.ref a) "__class__") Q E s:=by
 obtain⟨nm,q,N,bs,bm,sn,sub,ab,col,dd,k0,k1,k2,k3,k5,newId,lk,cb⟩:=e.at_
 have hC:=X _ _ lk
 have cl:(PySem.W.clsIn K C).isSome=true:=by unfold PySem.W.clsIn;rw[lk];rfl
 have hf:PySem.W.findObj K C (some od) "__class__"=some (.bind (.builtin "getset_descriptor.__get__") (.builtin "object.__class__")):=PySem.W.findObj_data cl e.ca e.cn e.ct
 obtain⟨h,g,d,t,os⟩:=s
 unfold getAttr? getAttrBy?
 refine wpAny_bind (wpAny_mkText (wpAny_bind (wpAny_attempt ?_)))
 refine jcf cb (PySem.W.looks_findIn X e.ga) (PySem.W.looks_findIn X e.gh) hC I.at_ I.cls (fun {A E Q} z=>?_) rfl (wpAny_pure hq)
 unfold PySem.Builtin.«object.__getattribute__»
 have L0:=I.type (M:=model prog w)
 have L1:=PySem.W.looks_find (M:=model prog w) X I hf
 refine wpAny_bind (wpAny_pure (wpAny_bind (wpAny_pure (wpAny_bind (L0.at (wpAny_bind (L1.at ?_)))))))
 show wpAny _ _ (holding [Value.builtin "object.__class__"] (call (.builtin "getset_descriptor.__get__") [.builtin "object.__class__",.ref a,.ref C]) >>= ret) _ _ _
 exact wpAny_bind (wpAny_holding (wpAny_call (PySem.W.class_get (od:=some od) (s:=⟨h,g,d,t+1,os⟩) X I e.cm (wpAny_pure z))))
theorem jcg (e:ErrI K C):PySem.W.KitX K (.ref a) (.ref C) (fun h=>PySem.W.InstAt h a oe C (some od)) where
 ty:=fun _ _ _ I=>I.type
 it:=fun _ _ X _=>by
  obtain⟨nm,q,N,bs,bm,sn,sub,ab,col,dd,k0,k1,k2,k3,k5,newId,lk,cb⟩:=e.at_
  intro A' Q' E' s' k z
  unfold isType loadHead
  exact wpAny_bind (wpAny_loadPart (k _ _ (X _ _ lk)) (wpAny_pure z))
 ne:=fun h tp dd its n sl X htp=>by
  obtain⟨nm,q,N,bs,bm,sn,sub,ab,col,dd',k0,k1,k2,k3,k5,newId,lk,cb⟩:=e.at_
  refine Bool.eq_false_iff.mpr fun q=>?_
  have e:C=tp:=Value.ref.inj (beq_iff_eq.mp q)
  subst e
  have z:Value.type "type"=Value.type "tuple":=congrArg Obj.cls (Option.some.inj ((X _ _ lk).symm.trans htp))
  exact absurd (Value.type.inj z) (by decide)
 ca:=fun X I k=>jb3 e X I k
end
def HasErr (H:Hp) (a C dx:Addr):Prop:=H a=some (errH a (.ref C) (some dx))∨H a=some (errN a C (some dx))
theorem HasErr.mono {H H':Hp}{a C dx:Addr} (e:Ext H H') (h:HasErr H a C dx):HasErr H' a C dx:=h.imp (fun z=>e _ _ z) (fun z=>e _ _ z)
section
variable {X:Cx}{pins:List (Addr × Obj)}{σ:St}{H:Hp}{s:Shared}{a C dx:Addr}{fs:List (Str × V)}
theorem Inv.err (I:Inv X pins σ H s) (h:HasErr H a C dx):∃ o vs,s.heap.get? a=some o∧o.cls=.ref C∧o.dict=some dx∧o.data=.fields vs:=by
 rcases h with h | h
 ·obtain⟨⟨o,vs,e1,e2,e3,e4⟩,_,_⟩:=I.hok a _ h
  exact⟨o,vs,e1,e2,e3,e4⟩
 ·obtain⟨⟨t,sl,e⟩,_,_⟩:=I.hok a _ h
  exact⟨_,_,e,rfl,rfl,rfl⟩
theorem Inv.errAt (I:Inv X pins σ H s) (h:HasErr H a C dx) (hd:H dx=some (.xd fs)):∃ oe od,PySem.W.InstAt s.heap a oe C (some od):=by
 obtain⟨o,vs,e1,e2,e3,e4⟩:=I.err h
 obtain⟨mA,⟨od,es,ep,ed,_⟩,_⟩:=I.hok dx _ hd
 refine⟨o,od,e1,e2,?_,?_⟩
 ·unfold PySem.W.notCls;rw[e4]
 ·rw[e3];exact ed
def rIsE (K:PySem.W.Frag):List V→Hp→VK→Prop:=fun xs H Q=>∃ a C dx fs b,((∃ n,xs=[.ref a,.ty n]∧PySem.W.kitOne K (.ref C) (.type n)=some b)∨∃ B,xs=[.ref a,.ref B]∧PySem.W.kitOne K (.ref C) (.ref B)=some b)∧HasErr H a C dx∧H dx=some (.xd fs)∧ErrI K C∧Q (.bl b) H
theorem cIsE:CallR X (.builtin "isinstance") (rIsE X.K):=by
 intro pins s σ H xs us Q I r h
 obtain⟨a,C,dx,fs,b,hx,he,hd,hi,q⟩:=h
 obtain⟨oe,od,ia⟩:=I.errAt he hd
 rcases hx with⟨n,rfl,e⟩ | ⟨n,rfl,e⟩
 ·obtain⟨u,w',rfl,ru,rw'⟩:=jfi r
  obtain rfl:w'=Value.type n:=rw'
  obtain rfl:u=Value.ref a:=ru
  exact PySem.W.kia_one (jcg hi) I.kIn ia e (by intro z;cases z) fun tk=>⟨.bl b,H,I.tok _,rfl,q⟩
 ·obtain⟨u,w',rfl,ru,rw'⟩:=jfi r
  obtain rfl:w'=Value.ref n:=rw'
  obtain rfl:u=Value.ref a:=ru
  exact PySem.W.kia_one (jcg hi) I.kIn ia e (by intro z;cases z) fun tk=>⟨.bl b,H,I.tok _,rfl,q⟩
def jlo (K:PySem.W.Frag) (f:Str):V→Hp→VK→Prop:=fun x H Q=>∃ a C dx fs v,x=.ref a∧HasErr H a C dx∧H dx=some (.xd fs)∧fs.lookup f=some v∧(v=.non∨∃ i,v=.int i)∧ErrI K C∧PySem.W.findIn K (.ref C) f=some none∧Q v H
def tEFld (K:PySem.W.Frag) (ta:TE) (f:Str):TE:=fun σ H Q=>ta σ H fun x H1=>jlo K f x H1 Q
theorem jh7 {e:Expr}{ta:TE}{f:Str}{pos:Pos} (he:PE X e ta) (hb:attributeBase e f X.env (eval e X.env)=eval e X.env):PE X (.Attribute e f pos) (tEFld X.K ta f):=by
 intro pins s σ H Q I h
 refine jc7 hb (thn (he pins s σ H _ I h) fun u s1 ⟨x,H1,I1,rx,a,C,dx,fs,v,ex,hE,hd,l,hv,hi,hn,q⟩=>?_)
 subst ex
 obtain rfl:u=Value.ref a:=rx
 obtain⟨nm,qn,N,bs,bm,sn,sub,ab,col,dd,k0,k1,k2,k3,k5,newId,lk,cb⟩:=hi.at_
 obtain⟨o,vs,e1,e2,e3,e4⟩:=I1.err hE
 obtain⟨mA,ns,rel⟩:=I1.hok dx _ hd
 have kin:=I1.kIn
 have rl:=rel f
 rw[l] at rl
 obtain⟨uv,em,rv⟩:∃ uv,mA f=some uv∧RelV v uv:=by
  cases em:mA f with
  | none=>rw[em] at rl;exact False.elim rl
  | some uv=>rw[em] at rl;exact⟨uv,rfl,rl⟩
 have hh:handedOut uv=pure uv:=by
  rcases hv with rfl | ⟨i,rfl⟩
  ·cases (show uv=Value.none from rv);rfl
  ·obtain⟨t,rfl⟩:=(show ∃ t,uv=Value.int i t from rv);rfl
 obtain⟨hp,g,d,tk,os⟩:=s1
 exact je1 cb (PySem.W.looks_findIn kin hi.ga) (PySem.W.looks_findIn kin hi.gh) (PySem.W.looks_findIn kin hn) (kin _ _ lk) e1 e2 e3 e4 ns.ns em hh fun t'=>⟨v,H1,I1.tok _,rv,q⟩
end
theorem jjg {X:Cx}{E:XK} (O:Own X):j36 (CXE X.prog X.w) (X.wish (XS X E)) E:=fun _ _ _ _ _ _ I h=>callX O I.unwish h
theorem xsW {X:Cx}{F:Value→Shared→Prop}{E:XK}{e:Value}{s:Shared} (h:XS (X.wish F) E e s):XS X E e s:=by
 obtain⟨σ,H,a,C,dx,fl,h1,I,r⟩:=h
 exact⟨σ,H,a,C,dx,fl,h1,I.unwish,r⟩
theorem j6q {X:Cx}{E:XK}{e:Expr}{te:TE}{pos:Pos} (O:Own X) (hc:X.calm=true) (he:PE (X.wish (XS X E)) e te):PS (X.wish (XS X E)) (.Raise (some e) none pos) (jdo X.K X.s₀.heap.objs.size E te) :=
 jdp (X:=X.wish (XS X E)) ⟨O.stk,O.frm,O.pn⟩ (fun _ _ z=>xsW z) hc he
def bmV:List Value:=[.type "ValueError",.type "Exception",.type "BaseException",.type "object"]
structure ErrK (K:PySem.W.Frag) (C:Addr) (bm:List Value) (f:Addr):Prop where
 lk:∃ nm q N bs sn sub ab col dd k0 k1 k2 k3 k5,K.lookup C=some (excClassObj nm q C N bs bm true sn sub ab col dd k0 k1 k2 k3 k5 "ValueError.__new__")
 init:PySem.W.findIn K (.ref C) "__init__"=some (some (.ref f))
 fn:PySem.W.isFn K (.ref f)=true
 kp:PySem.W.keepIn K (.ref C)=true
 set:PySem.W.findIn K (.ref C) "__setattr__"=some (some (.builtin "object.__setattr__"))
 row:PySem.W.findIn K (.ref C) "row"=some none
 ga:PySem.W.findIn K (.ref C) "__getattribute__"=some (some (.builtin "BaseException.__getattribute__"))
 gh:PySem.W.findIn K (.ref C) "__getattr__"=some none
 ca:PySem.W.findIn K (.ref C) "__class__"=some (some (.builtin "object.__class__"))
 cn:PySem.W.specialIn K (.builtin "object.__class__") "__get__"=some (some (.builtin "getset_descriptor.__get__"))
 ct:PySem.W.takesIn K (.builtin "object.__class__")=some true
 cm:PySem.W.mroIn K C (.type "object")=some true
def Tl (bm:List Value):Prop:=bm=bmV∨∃ L,bm=.ref L :: bmV
theorem Tl.has {bm:List Value}{T:String} (h:Tl bm) (k:bmV.contains (.type T)=true):bm.contains (.type T)=true:=by
 rcases h with rfl | ⟨L,rfl⟩
 ·exact k
 ·rw[List.contains_cons,k,Bool.or_true]
theorem Tl.no {bm:List Value}{T:String} (h:Tl bm) (k:bmV.contains (.type T)=false):bm.contains (.type T)=false:=by
 rcases h with rfl | ⟨L,rfl⟩
 ·exact k
 ·rw[List.contains_cons,k,Bool.or_false];rfl
section
variable {K:PySem.W.Frag}{C f:Addr}{bm:List Value}
theorem ErrK.em (e:ErrK K C bm f) (h:Tl bm):ErrM K C f bm bmV "ValueError" "ValueError.__new__" "ValueError.__init__":=by
 obtain⟨nm,q,N,bs,sn,sub,ab,col,dd,k0,k1,k2,k3,k5,lk⟩:=e.lk
 exact⟨⟨nm,q,N,bs,_,sn,sub,ab,col,dd,k0,k1,k2,k3,k5,lk⟩,PySem.F.excBase_ValueError,h.has (by decide +kernel),h.no (by decide +kernel),h.no (by decide +kernel),h.has (by decide +kernel),e.init,e.fn,e.kp⟩
theorem ErrK.es (e:ErrK K C bm f) (h:Tl bm):ErrS K C "row" bm:=by
 obtain⟨nm,q,N,bs,sn,sub,ab,col,dd,k0,k1,k2,k3,k5,lk⟩:=e.lk
 refine⟨⟨nm,q,N,bs,sn,sub,ab,col,dd,k0,k1,k2,k3,k5,_,lk⟩,fun x=>?_,h.has (by decide +kernel),e.set,e.row⟩
 rcases h with rfl | ⟨L,rfl⟩
 ·exact PySem.F.store_ValueError.passes _
 ·rw[refuseLoop_ref];exact PySem.F.store_ValueError.passes _
theorem ErrK.ec (e:ErrK K C bm f) (h:Tl bm):ErrC K C bm:=by
 obtain⟨nm,q,N,bs,sn,sub,ab,col,dd,k0,k1,k2,k3,k5,lk⟩:=e.lk
 exact⟨⟨nm,q,N,bs,_,sn,sub,ab,col,dd,k0,k1,k2,k3,k5,_,lk⟩,h.has (by decide +kernel)⟩
theorem ErrK.ei (e:ErrK K C bm f) (h:Tl bm):ErrI K C:=by
 obtain⟨nm,q,N,bs,sn,sub,ab,col,dd,k0,k1,k2,k3,k5,lk⟩:=e.lk
 exact⟨⟨nm,q,N,bs,bm,sn,sub,ab,col,dd,k0,k1,k2,k3,k5,_,lk,h.has (by decide +kernel)⟩,e.ga,e.gh,e.ca,e.cn,e.ct,e.cm⟩
theorem j6r {L fL:Addr} (e:ErrK K C (.ref L :: bmV) f) (l:ErrK K L bmV fL):Catch K C L:=⟨_,_,e.ec (.inr ⟨_,rfl⟩),l.ec (.inl rfl),by simp⟩
end
def spErr (K:PySem.W.Frag):Sp:=fun vs H Q _=>∃ x C bm v,vs=[.ref x,v]∧H x=some (errN x C none)∧ErrS K C "row" bm∧∀ dx,H dx=none→dx≠x→Q .non (upd (upd H dx (.xd [("row",v)])) x (errN x C (some dx)))
section
variable {K:PySem.W.Frag}{σ:St}{H:Hp}{Q:VK}{D:Ends}{E:XK}
theorem r_try {L:Addr}{i:Nat}{tb:XK→TS}{ts:Addr→TS} (q:tb (fun C dx H'=>∃ c,C=.ref c∧Catch K c L∧∀ x,H' x=none→ts x (D.gone i) (σ.set i (some (.ref x))) (upd H' x (errH x C dx))) D σ H):tTry K L i tb ts D σ H:=q
theorem j8x {C f:Addr}{bm:List Value}{n:Nat} (e:ErrK K C bm f) (h:Tl bm) (q:∀ dx H',H dx=none→H' dx=some (.xd [("row",.non)])→Ext H H'→E (.ref C) (some dx) H'):jdo K n E (tErr C n (spErr K) [.non] E0 tNil) D σ H:=by
 refine⟨by decide,fun x hx hn=>⟨x,C,bm,.non,rfl,j04,e.es h,fun dx hd ne=>⟨rfl,x,C,some dx,bm,rfl,j04,hn,e.ec h,?_⟩⟩⟩
 have hd':H dx=none:=by rwa [j08 ne] at hd
 refine q dx _ hd' ?_ fun b o hb=>?_
 ·rw[j7h ne,j08 ne,j04]
 ·have nx:b≠x:=fun z=>by rw[z,hx] at hb;cases hb
  have nd:b≠dx:=fun z=>by rw[z,hd'] at hb;cases hb
  rw[j7h nx,j08 nx,j08 nd,j08 nx]
  exact hb
theorem j4n {a C dx B:Addr}{fs:List (Str × V)}{b:Bool} (h:HasErr H a C dx) (hd:H dx=some (.xd fs)) (i:ErrI K C) (k:PySem.W.kitOne K (.ref C) (.ref B)=some b) (q:Q (.bl b) H):rIsE K [.ref a,.ref B] H Q:=⟨a,C,dx,fs,b,.inr ⟨B,rfl,k⟩,h,hd,i,q⟩
theorem jh8 {a C dx:Addr}{n:String}{fs:List (Str × V)}{b:Bool} (h:HasErr H a C dx) (hd:H dx=some (.xd fs)) (i:ErrI K C) (k:PySem.W.kitOne K (.ref C) (.type n)=some b) (q:Q (.bl b) H):rIsE K [.ref a,.ty n] H Q:=⟨a,C,dx,fs,b,.inl ⟨n,rfl,k⟩,h,hd,i,q⟩
theorem jh9 {ta:TE}{f:Str} (q:ta σ H fun x H1=>jlo K f x H1 Q):tEFld K ta f σ H Q:=q
theorem jha {a C dx f:Addr}{bm:List Value} (h:HasErr H a C dx) (hd:H dx=some (.xd [("row",.non)])) (e:ErrK K C bm f) (t:Tl bm) (q:Q .non H):jlo K "row" (.ref a) H Q:=⟨a,C,dx,_,.non,rfl,h,hd,rfl,.inl rfl,e.ei t,e.row,q⟩
theorem j8y {C:Value}:PySem.W.kitOne K C C=some true:=by unfold PySem.W.kitOne;rw[if_pos (by simp)]
theorem r_gone {i:Nat} (q:D.nx (σ.set i none) H):(D.gone i).nx σ H:=q
end
section
variable {K:PySem.W.Frag}{σ:St}{H:Hp}{Q:VK}
theorem j8z {α:Type} (x:α):∀ k:Nat,(List.replicate k [x]).flatten=List.replicate k x
 | 0=>rfl
 | k+1=>by rw[List.replicate_succ,List.flatten_cons,j8z x k,List.replicate_succ];rfl
theorem r_pow9 (q:Q (.int 1000000000) H):rI CPow (fun i j=>.int (i ^ j.toNat)) (.int 10) (.int 9) H Q:=jgl (n:=0) (j:=9) (by decide) (by decide) (by decide) q
end
theorem tup_at {h h':Heap}{l:Addr}{xs:Array Value} (x:IsTup h l xs) (e:∀ o,h.get? l=some o→h'.get? l=some o):IsTup h' l xs:=let ⟨o,ho,r⟩:=x;⟨o,e _ ho,r⟩
theorem je2 {its:List Value}{acc:Array Value} (h:ItemsOf (fun i v=>its.toArray[its.toArray.size-1-i]?=some v) acc its.toArray.size):acc.toList=its.reverse:=by
 obtain⟨h1,h2⟩:=h
 have h1:acc.size=its.length:=by rw[h1];simp
 refine List.ext_getElem? fun i=>?_
 rw[Array.getElem?_toList]
 by_cases hi:i < its.length
 ·have ha:acc[i]?=some (acc[i]'(by omega)):=Array.getElem?_eq_getElem (by omega)
  have:=h2 i _ ha
  rw[ha,List.getElem?_reverse hi]
  simpa using this.symm
 ·rw[Array.getElem?_eq_none (by omega),List.getElem?_eq_none (by simp;omega)]
theorem iteTc {c:Bool}{A B:Prop} (h:c=true) (q:A):if c=true then A else B:=by rw[h];exact iteT q
theorem iteFc {c:Bool}{A B:Prop} (h:c=false) (q:B):if c=true then A else B:=by rw[h];exact iteF q
structure RoomW (k:Nat) (A:Around):Prop where
 dp:A.depth+3 * k+5 < recursionLimit
 un:A.units+16 * k+200 < cLine
structure FnOkW (P:Program) (w:World) (K:PySem.W.Frag) (mg:Str→Option Value) (base:Heap) (CX:CXT) (k:Nat) (f:Addr) (fd:FuncData) (ps:List Str) (sp:Sp):Prop where
 len:∀ vs H Q E,sp vs H Q E→vs.length=ps.length
 run:∀ (A:Around) (outer:List Env) (s:Shared) (H:Hp) (args:Args) (us:List Value) (vs:List V) (Q:VK) (E:XK),RoomW k A→Env0 P w K mg base A outer s H→BindsTo s fd args (ps.zip us)→Vals vs us→sp vs H Q E →
  codeAny (model P w) A (.call (.ref f) args) (CR CX outer P w H s Q E) s
def mulS (x:Str) (n:Nat):Str:=⟨((List.replicate n x.cps.toList).flatten).toArray⟩
theorem je3 (x:Str) (n:Nat):(mulS x n).length=n * x.length:=by
 show ((List.replicate n x.cps.toList).flatten).toArray.size=_
 rw[List.size_toArray,jg3]
 rfl
theorem foldA (its:List Nat):∀ (k:Nat) (acc:List Nat),List.foldl (fun x1 x2=>x1++x2) acc.toArray (List.replicate k its.toArray)=(acc++(List.replicate k its).flatten).toArray
 | 0,acc=>by simp
 | k+1,acc=>by
  rw[List.replicate_succ,List.foldl_cons,show acc.toArray++its.toArray=(acc++its).toArray by simp,foldA its k (acc++its),List.replicate_succ,List.flatten_cons,List.append_assoc]
theorem jhb (x:Str) (n:Nat):Txt.mul x n=mulS x n:=by
 unfold Txt.mul mulS
 by_cases h1:(n:Int) < 1
 ·have:n=0:=by omega
  subst this
  rfl
 ·rw[if_neg h1]
  by_cases h2:((n:Int) == 1 || x.length == 0)=true
  ·rw[if_pos h2]
   rw[Bool.or_eq_true,beq_iff_eq,beq_iff_eq] at h2
   rcases h2 with h2 | h2
   ·have:n=1:=by omega
    subst this
    simp
   ·have e:x.cps.toList=[]:=by
     have:x.cps.toList.length=0:=h2
     exact List.length_eq_zero_iff.mp this
    have e2:x.cps=#[]:=by rw[← Array.toArray_toList (xs:=x.cps),e]
    rw[e]
    have:(List.replicate n ([]:List Nat)).flatten=[]:=by simp
    rw[this,← e2]
  ·rw[if_neg h2,Int.toNat_natCast]
   have:=foldA x.cps.toList n []
   simp only[Array.toArray_toList,List.nil_append] at this
   rw[← this]
section
variable {X:Cx}
def rAddS:R2:=fun x y H Q=>∃ i j,x=.str i∧y=.str j∧i.length+j.length≤sizeLine∧Q (.str (i++j)) H
def jjh (K:PySem.W.Frag):R2:=fun x y H Q=>jgy K x y H Q∨rAddS x y H Q
theorem j1n:OpR X (binaryOp .Add) (jjh X.K):=oAddV.or j83
def rMulS:R2:=fun x y H Q=>∃ (i:Str) (k:Int),x=.str i∧y=.int k∧0≤k∧k≤1000∧i.length≤1000∧Q (.str (mulS i k.toNat)) H
theorem jhc:OpR X (binaryOp .Mult) rMulS:=by
 intro pins s σ H x y v u Q I rx ry h
 obtain⟨i,k,rfl,rfl,k0,k1,hl,q⟩:=h
 obtain⟨t,rfl⟩:=rx
 obtain⟨t',rfl⟩:=ry
 obtain⟨n,rfl⟩:∃ n:Nat,k=n:=⟨k.toNat,by omega⟩
 rw[Int.toNat_natCast] at q
 refine SB.mul ⟨?_,fun h1 _=>?_,fun _ _=>?_⟩ fun t2 tk=>⟨.str (mulS i n),H,I.tok _,⟨t2,by rw[jhb]⟩,q⟩
 ·rw[Bool.or_eq_false_iff,decide_eq_false_iff_not,decide_eq_false_iff_not];omega
 ·have h3:(i.length:Int) * n≤1000000:=by
   have:i.length * n≤1000 * 1000:=Nat.mul_le_mul hl (by omega)
   have:=Int.ofNat_le.mpr this
   rw[Int.natCast_mul] at this
   omega
  have h4:(i.length:Int)≤(2 ^ 63-1) / n:=Int.le_ediv_of_mul_le (by omega) (by omega)
  omega
 ·rw[Int.toNat_natCast]
  unfold Builtin.Str.tooLong
  have:i.length * n≤1000 * 1000:=Nat.mul_le_mul hl (by omega)
  rw[decide_eq_false_iff_not,sizeLine_eq]
  omega
def jls:R2:=fun x y H Q=>rI CMulB (fun i j=>.int (i * j)) x y H Q∨rMulS x y H Q
theorem je4:OpR X (binaryOp .Mult) jls:=jgd.or jhc
def rLeS:R2:=fun x y H Q=>∃ i j,x=.str i∧y=.str j∧Q (.bl (!decide (j.cps.toList < i.cps.toList))) H
theorem op_leS:OpR X (compareOp .LtE) rLeS:=by
 intro pins s σ H x y v u Q I rx ry h
 obtain⟨i,j,rfl,rfl,q⟩:=h
 obtain⟨t,rfl⟩:=rx
 obtain⟨t',rfl⟩:=ry
 exact PySem.P.le_str ⟨.bl _,H,I,rfl,q⟩
def rLeW:R2:=fun x y H Q=>rI0 (fun i j=>.bl (decide (i≤j))) x y H Q∨rLeS x y H Q
theorem oLeW:OpR X (compareOp .LtE) rLeW:=op_le.or op_leS
def jji (K:PySem.W.Frag):List V→Hp→VK→Prop:=fun xs H Q=>rLen K xs H Q∨∃ z:Str,xs=[.str z]∧z.length≤sizeLine∧Q (.int z.length) H
theorem j6s:CallR X (.builtin "len") (jji X.K):=cLen.or j5h
end
def AscS (x:Str):Prop:=x.cps.all (· < 128)=true
theorem jb4:isSubtype (.type "tuple") (.type "set")=pure false:=by rw[isSubtype_type];kernel_rfl
theorem j90:isSubtype (.type "tuple") (.type "frozenset")=pure false:=by rw[isSubtype_type];kernel_rfl
abbrev newSet (led:Bool):Obj:={ cls:=.type "set",dict:=none,data:=.set #[] 0 (.fresh 0 0 led) }
theorem j4o:∀ {ss:List Str}{us:List Value},Vals (ss.map V.str) us→StrsAre us ss
 | [],us,r=>by cases r;exact .nil
 | x :: ss,us,r=>by
  cases r with
  | cons r1 r2 =>
   obtain⟨t,e⟩:=r1
   subst e
   exact .cons x t (j4o r2)
theorem j6t:∀ {us:List Value}{ss:List Str},StrsAre us ss→Vals (ss.map V.str) us
 | _,_,.nil=>.nil
 | _,_,.cons x t h=>.cons ⟨t,rfl⟩ (j6t h)
section
variable {prog:Program}{w:World}{A:Around}{E:Value→Shared→Prop}{s:Shared}
theorem je5 {b:Bool}{l:Addr}{vs:List Value}{ss:List Str}{Q:Value→Shared→Prop} (hl:SqA b s.heap l vs.toArray) (hz:vs.length≤sizeLine) (hS:StrsAre vs ss) (h64:vs.length < 64)
  (h:∀ (out:Array Value) (ss':List Str),StrsAre out.toList ss'→ss'.Perm ss→sortedS ss'=true→Q (.ref (s.heap.objs.size+1)) { s with heap:=sortedAll s.heap vs out }):wpAny (model prog w) A (call (.builtin "sorted") [.ref l]) Q E s:=by
 refine Calls.call_function_entry kind_sorted plain_sorted entry_sorted (args_sorted1 _) ?_;unfold Builtin.«sorted»
 refine wpAny_bind (m:=checkCount "sorted" 1 1 _) (wpAny_pure (wpAny_bind (j8r hl hz (wpAny_bind (wpAny_newList ?_)))))
 have n1:((s.heap.push (seqObj "list" #[] 0)).update s.heap.objs.size (Obj.mapSeq (·++vs.toArray))).objs.size=s.heap.objs.size+1:=by rw[Heap.size_update,size_push']
 have o1:(((s.heap.push (seqObj "list" #[] 0)).update s.heap.objs.size (Obj.mapSeq (·++vs.toArray))).push (seqObj "list" vs.toArray 0)).get? (s.heap.objs.size+1)=some (seqObj "list" vs.toArray 0):=by rw[← n1];exact Heap.get?_push_size _ rfl
 show wpAny _ _ _ _ _ { s with heap:=((s.heap.push (seqObj "list" #[] 0)).update s.heap.objs.size (Obj.mapSeq (·++vs.toArray))).push (seqObj "list" vs.toArray 0) };rw[n1]
 refine wpAny_bind (wpAny_holding (wpAny_call_entry slot_list_sort ⟨_,o1,rfl⟩ entry_list_sort (list_sort_treeK strKind_oneLt o1 hS.keysOf (fun v₁ v₂ rest e=>keyKind_strs (by rw[← e];exact hS)) h64 fun st' a1 a2=>⟨_,rfl,?_⟩) (args_list_sort _)))
 obtain⟨ss',e1,e2,e3⟩:=sorted_out_str hS a1 a2
 exact wpAny_pure ⟨_,rfl,h _ ss' e1 e2 e3⟩
end
section
variable {X:Cx}
def jhd (K:PySem.W.Frag):List V→Hp→VK→Prop:=fun xs H Q=>∃ (p:Addr) (ss:List Str) (c:Bool),xs=[.ref p]∧SqE K H p (ss.map V.str) c∧ss.length < 64∧∀ l (ss':List Str),H l=none→ss'.Perm ss→sortedS ss'=true→Q (.ref l) (upd H l (.lst (ss'.map V.str)))
theorem cSortS:CallR X (.builtin "sorted") (jhd X.K):=by
 intro pins s σ H xs us Q I r h
 obtain⟨p,ss,c,rfl,hq,h64,q⟩:=h
 obtain⟨u,rfl,rx⟩:=j4a r
 cases rx
 obtain⟨its,r',pl,hz⟩:=I.sqe hq
 have hlen:=r'.length
 rw[List.length_map] at hlen hz
 refine je5 pl (by omega) (j4o r') (by omega) fun out ss' a1 a2 a3=>?_
 obtain⟨e,he⟩:=sortedAll_at s.heap its out
 refine⟨.ref (s.heap.objs.size+1),_,I.laid (t':=s.toks) (fun b o q=>sortedAll_old q) (Nat.le_succ _) (show ObjOk X.prog X.w _ _ _ (.lst (ss'.map V.str)) from⟨by rw[List.length_map,a2.length_eq];exact hz,out.toList,e,j6t a1,by simpa using he⟩),rfl,q _ ss' (I.hok.fresh (Nat.le_succ _)) a2 a3⟩
def jhe (K:PySem.W.Frag):List V→Hp→VK→Prop:=fun xs H Q=>j8s K xs H Q∨jhd K xs H Q
theorem j7m:CallR X (.builtin "sorted") (jhe X.K):=jgw.or cSortS
end
section
variable {prog:Program}{w:World}{A:Around}{E:Value→Shared→Prop}{s:Shared}
theorem jb5 (l:Addr) (xs:Array Value) (x:Value) (e:Value→Bool) (j:Nat) (hj:j < xs.size) (hit:e xs[j]=true) (hno:∀ m (hm:m < xs.size),m < j→e xs[m]=false) :
  Meets (Builtin.«tuple.index» ⟨[.ref l,x],[]⟩) (fun A R s=>IsTup s.heap l xs∧(∀ y,y∈xs→SeqAt.EqAt A.in1 s y x (e y))∧R (.ok (.ret (.int j s.toks))) { s with toks:=s.toks+1 }):=by
 intro prog w A R s h
 obtain⟨hl,he,h⟩:=h
 unfold Builtin.«tuple.index»
 refine wpAny_bind (wpAny_of_eq (a:=(Value.ref l,[x])) rfl ?_)
 show wpAny _ _ (Builtin.Tuple.tupleItemsOf (.ref l) >>= _) _ _ s
 refine wpAny_bind (tupleItemsOf_ hl ?_)
 skip;refine wpAny_bind (wpAny_pure (wpAny_bind (wpAny_pure ?_)))
 dsimp only
 rw[Nat.min_self]
 have loop:∀ (k i:Nat) (s:Shared) (f:Nat→Option PySem.Fin × Unit→Sem (ForInStep (Option PySem.Fin × Unit))) (Q:Option PySem.Fin × Unit→Shared→Prop) (E:Value→Shared→Prop),i+k=xs.size→i≤j→(∀ y,y∈xs→SeqAt.EqAt A.in1 s y x (e y)) →
   (∀ i st,f i st=(match xs[i]? with
    | some y=>do
     if ← eqBool y x then do
      let r ← retInt i
      pure (ForInStep.done (some r,()))
     else pure (ForInStep.yield (none,()))
    | _=>pure (ForInStep.yield (none,()))))→Q (some (.done (.ret (.int j s.toks))),()) { s with toks:=s.toks+1 }→wpAny (model prog w) A.in1 (forIn (List.range' i k) (none,()) f) Q E s:=by
  intro k
  induction k with
  | zero=>intro i s f Q E hk hi;omega
  | succ k ih =>
   intro i s f Q E hk hi he hf q
   have hlt:i < xs.size:=by omega
   rw[List.range'_succ,List.forIn_cons,hf,Array.getElem?_eq_getElem hlt]
   refine wpAny_bind (wpAny_bind (he _ (Array.getElem_mem hlt) prog w _ _ ?_))
   by_cases hij:i=j
   ·subst hij
    rw[hit]
    exact wpAny_bind (wpAny_bind (wpAny_mkInt (wpAny_pure (wpAny_pure (wpAny_pure q)))))
   ·rw[hno i hlt (by omega)]
    exact wpAny_pure (ih (i+1) s f Q E (by omega) (by omega) he hf q)
 skip;rw[Std.Legacy.Range.forIn_eq_forIn_range']
 rw[show List.range' ([:xs.size]:Std.Legacy.Range).start ([:xs.size]:Std.Legacy.Range).size ([:xs.size]:Std.Legacy.Range).step=List.range' 0 xs.size by simp[Std.Legacy.Range.size]]
 refine wpAny_bind (loop xs.size 0 s _ _ _ (by omega) (Nat.zero_le _) he (fun _ _=>rfl) (wpAny_pure h))
end
section
variable {X:Cx}
def tTM (r:V→List V→Hp→VK→Prop) (to:TE) (t:TA):TE:=fun σ H Q=>to σ H fun x H1=>(∃ p xs,x=.ref p∧H1 p=some (.tup xs))∧t σ H1 fun vs H2=>r x vs H2 Q
theorem pe_tm {o e:Expr}{es:List Expr}{name:Str}{id:String}{apos cpos:Pos}{r:V→List V→Hp→VK→Prop}{to:TE}{t:TA} (pa:PlainAttrs "tuple") (slot:Slot "tuple" name id) (hty:typeOf (.builtin id)=pure (.type "method_descriptor")) (hm:MtM X id r) (ho:PE X o to) (ha:PA X (e :: es) t)
  (hbase:attributeBase o name X.env (eval o X.env)=eval o X.env:=by rfl)
  (hfew:((backTo cpos (starEach (e :: es) X.env)).all (fun x=>!x.1) && (backToKw cpos (keywordEach [] X.env)).all (fun x=>x.1.isSome)
   && decide ((e :: es).length+([]:List Keyword).length+(if ([]:List Keyword).isEmpty then 0 else 1) < 30))=true:=by rfl)
  (hline:(apos.endLine == cpos.line)=true:=by rfl) (hs:starEach (e :: es) X.env=(false,eval e X.env) :: starEach es X.env:=by rfl) (hplain:(backTo cpos (starEach es X.env)).any (·.1)=false:=by rfl) :
  PE X (.Call (.Attribute o name apos) (e :: es) [] cpos) (tTM r to t):=by
 intro pins s σ H Q I h
 refine wpAny_Call_method_late hbase hfew hline rfl (thn (ho pins s σ H _ I h) fun v s1 ⟨x,H1,I1,r1,⟨p,xs,ex,hp⟩,q1⟩=>?_)
 subst ex
 cases r1
 obtain⟨_,its,_,it,od,f,d⟩:=(show ObjOk X.prog X.w H1 s1.heap p (.tup xs) from I1.hok p _ hp)
 refine⟨"tuple",id,pa,slot,hty,it.typeIs,fun a e=>by cases e;exact⟨od,f,d⟩,?_⟩
 have hA:=ha cpos pins s1 σ H1 _ I1 q1
 rw[hs] at hA ⊢
 refine Calls.callWith_builtin (by show (false || (backTo cpos (starEach es X.env)).any (·.1))=false;rw[hplain] <;> rfl) (Calls.evalArgs_plain ?_)
 exact thn hA fun us s2 ⟨vs,H2,I2,r2,q2⟩=>hm pins s2 σ H2 (.ref p) vs (.ref p) us Q I2 rfl r2 q2
end
section
variable {K:PySem.W.Frag}{σ:St}{H:Hp}{Q:VK}
theorem r_tm {r:V→List V→Hp→VK→Prop}{to:TE}{t:TA} (q:to σ H fun x H1=>(∃ p xs,x=.ref p∧H1 p=some (.tup xs))∧t σ H1 fun vs H2=>r x vs H2 Q):tTM r to t σ H Q:=q
theorem r_tyT {p:Addr}{xs:List V}{R:Prop} (h:H p=some (.tup xs)) (q:R):(∃ p' xs',V.ref p=.ref p'∧H p'=some (.tup xs'))∧R:=⟨⟨p,xs,rfl,h⟩,q⟩
theorem jhf {i j:Int} (q:Q (.int (i+j)) H):jjh K (.int i) (.int j) H Q:=.inl (jgz q)
theorem jhg {l b:Addr}{xs zs:List V} (h1:H l=some (.lst xs)) (h2:H b=some (.lst zs)) (hl:xs.length+zs.length≤1000000) (q:∀ p H',H p=none→H' p=some (.lst (xs++zs))→Ext H H'→Q (.ref p) H'):jjh K (.ref l) (.ref b) H Q:=.inl (r_catL h1 h2 hl q)
theorem j1o {l b:Addr}{xs zs:List V} (h1:H l=some (.tup xs)) (h2:H b=some (.tup zs)) (hl:xs.length+zs.length≤1000000) (q:∀ p H',H' p=some (.tup (xs++zs))→Ext H H'→Q (.ref p) H'):jjh K (.ref l) (.ref b) H Q:=.inl (r_catT h1 h2 hl q)
theorem jhh {i j:Int} (c:CMulB i j) (q:Q (.int (i * j)) H):jls (.int i) (.int j) H Q:=.inl (r_I c q)
theorem jhi {i:Str}{k:Int} (k0:0≤k) (k1:k≤1000) (h:i.length≤1000) (q:Q (.str (mulS i k.toNat)) H):jls (.str i) (.int k) H Q:=.inr ⟨i,k,rfl,rfl,k0,k1,h,q⟩
theorem r_leWI {i j:Int} (q:Q (.bl (decide (i≤j))) H):rLeW (.int i) (.int j) H Q:=.inl (r_I0 q)
theorem j6u {p:Addr}{xs:List V} (h:H p=some (.lst xs)) (q:Q (.int xs.length) H):jji K [.ref p] H Q:=.inl (r_lenL h q)
theorem j1f {p:Addr}{xs:List V} (h:H p=some (.tup xs)) (q:Q (.int xs.length) H):jji K [.ref p] H Q:=.inl (r_lenT h q)
theorem jhj {p:Addr}{xs:List V} (h:SqL K H p xs) (q:Q (.int xs.length) H):jji K [.ref p] H Q:=.inl (r_lenS h q)
theorem r_ixS1 {z:Str}{i:Int}{c:Nat} (h:z.length≤1000000) (e:atI z.cps.toList i=some c) (q:Q (.str ⟨#[c]⟩) H):rIx K (.str z) (.int i) H Q:=.inr (.inr ⟨z,i,c,rfl,rfl,by rw[sizeLine_eq];omega,e,q⟩)
end
section
variable {prog:Program}{w:World}{A:Around}{E:Value→Shared→Prop}{s:Shared}
theorem j7n {t sl:Addr}{items:Array Value}{vl vu:Value}{lo hi:Option Int}{Q:Value→Shared→Prop} (ht:IsTup s.heap t items) (hs:s.heap.IsSliceOf sl vl vu .none) (pl:IsPart vl lo) (pu:IsPart vu hi)
  (hw:HT.sIx items.size 0 lo=0∧HT.sIx items.size items.size hi=items.size) (h:Q (.ref t) s):wpAny (model prog w) A (getItem (.ref t) (.ref sl)) Q E s:=by
 obtain⟨os,hos,hcs,hds⟩:=id hs
 have hTs:s.TypeIs (.ref sl) "slice":=⟨os,hos,hcs⟩
 unfold getItem
 try with_reducible refine wpAny_holding ?_
 first | refine wpAny_bind (wpAny_pure ?_) | skip
 skip;refine wpAny_bind (wpAny_sequenceKey ht.typeIs (by decide) ?_)
 refine wpAny_bind (wpAny_callSpecial?_slot (name:=Str.ofString "__getitem__") ht.typeIs slot_tuple_getitem (wpAny_call_entry slot_tuple_getitem ht.typeIs entry_tuple_getitem ?_ (args_tuple_getitem _ _)))
 show wpAny _ _ (Builtin.Tuple.tupleItemsOf (.ref t) >>= _) _ _ s
 skip;refine wpAny_bind (tupleItemsOf_ ht ?_)
 skip;refine wpAny_bind (wpAny_typeOf hTs ?_)
 rw[if_pos (by decide)]
 skip;refine wpAny_bind (HT.sliceApplied_gen hs pl pu ?_)
 have hyes:(((HT.sIx items.size 0 lo:Nat):Int) == 0 && (1:Int) == 1 && (HT.sIx items.size items.size hi-HT.sIx items.size 0 lo) == items.size)=true:=by
  rw[hw.1,hw.2]
  simp
 show wpAny _ _ (if (((HT.sIx items.size 0 lo:Nat):Int) == 0 && (1:Int) == 1 && (HT.sIx items.size items.size hi-HT.sIx items.size 0 lo) == items.size)=true then _ else _) _ _ s
 rw[if_pos hyes]
 refine wpAny_bind (wpAny_bind (wpAny_typeOf ht.typeIs (wpAny_pure ?_)))
 rw[if_pos (by decide)]
 first
  | exact wpAny_bind (wpAny_rule (wpAny_bind (wpAny_pure (wpAny_pure ⟨_,rfl,wpAny_pure h⟩))))
  | exact wpAny_bind (wpAny_pure (wpAny_bind (wpAny_pure (wpAny_pure ⟨_,rfl,wpAny_pure h⟩))))
  | exact wpAny_bind (wpAny_rule (wpAny_pure ⟨_,rfl,wpAny_pure h⟩))
end
section
variable {X:Cx}
def rSlW (K:PySem.W.Frag):V→Option Int→Option Int→Hp→VK→Prop:=fun x lo hi H Q=>∃ a xs,x=.ref a∧SqT K H a xs∧(HT.sIx xs.length 0 lo=0∧HT.sIx xs.length xs.length hi=xs.length)∧Q (.ref a) H
theorem jff:SlR X (rSlW X.K):=by
 intro pins s σ H x v vl vu lo hi sl Q I rx hs pl pu h
 obtain⟨a,xs,rfl,hx,hw,q⟩:=h
 cases rx
 obtain⟨its,r,ht,hz⟩:=I.tuple hx
 have hlen:its.toArray.size=xs.length:=by rw[List.size_toArray];exact r.length.symm
 refine⟨"tuple",_,slot_tuple_getitem.lookup,ht.typeIs,?_⟩
 exact j7n ht hs pl pu (by rw[hlen];exact hw) ⟨.ref a,H,I,rfl,q⟩
def rSlS:V→Option Int→Option Int→Hp→VK→Prop:=fun x lo hi H Q=>∃ z:Str,x=.str z∧z.length≤1000000∧∀ z':Str,(∀ c∈z'.cps.toList,c∈z.cps.toList)→z'.length≤z.length→Q (.str z') H
theorem sl_str:SlR X rSlS:=by
 intro pins s σ H x v vl vu lo hi sl Q I rx hs pl pu h
 obtain⟨z,rfl,hz,q⟩:=h
 obtain⟨t,rfl⟩:=rx
 refine⟨"str",_,F.slot_str_getitem.lookup,typeIs_str _ _ _,?_⟩
 have part:∀ {v:Value}{o:Option Int},IsPart v o→∃ l:Option (Int × Tok),v=partValue l∧l.map (·.1)=o:=fun p=>by
  cases p with
  | none=>exact⟨none,rfl,rfl⟩
  | int i t=>exact⟨some (i,t),rfl,rfl⟩
 obtain⟨l,e1,_⟩:=part pl
 obtain⟨u,e2,_⟩:=part pu
 have hs':s.heap.IsSlice sl l u none:=by
  obtain⟨o,h1,h2,h3⟩:=hs
  exact⟨o,h1,h2,by rw[h3,e1,e2];rfl⟩
 refine wpAny_getItem_str_slice hs' rfl ?_
 unfold sliceMade
 split
 ·exact⟨.str z,H,I,⟨t,rfl⟩,q z (fun c hc=>hc) (Nat.le_refl _)⟩
 ·have hle:((slicePicked z l u none).filterMap (z.cps[·]?)).length≤z.length:=Nat.le_trans (List.length_filterMap_le _ _) (sliceIndices_le _ _ _)
  refine⟨?_,.str _,H,I.tok _,⟨_,rfl⟩,q _ (fun c hc=>?_) ?_⟩
  ·rw[sizeLine_eq]
   show ((slicePicked z l u none).filterMap (z.cps[·]?)).toArray.size≤_
   rw[List.size_toArray]
   omega
  ·have hc':c∈(slicePicked z l u none).filterMap (z.cps[·]?):=by simpa using hc
   obtain⟨i,_,hi⟩:=List.mem_filterMap.mp hc'
   have:=Array.mem_of_getElem? hi
   simpa using this
  ·show ((slicePicked z l u none).filterMap (z.cps[·]?)).toArray.size≤_
   rw[List.size_toArray]
   exact hle
def rSlV (K:PySem.W.Frag):V→Option Int→Option Int→Hp→VK→Prop:=fun x lo hi H Q=>(rSlU K x lo hi H Q∨rSlW K x lo hi H Q)∨rSlS x lo hi H Q
theorem oSlV:SlR X (rSlV X.K):=(oSl.or jff).or sl_str
theorem jb6 {xs:List V}{lo hi:Option Int} (h:HT.sIx xs.length 0 lo=0∧HT.sIx xs.length xs.length hi=xs.length):cutV xs lo hi=xs:=by
 unfold cutV
 rw[h.1,h.2,List.drop_zero,Nat.sub_zero,List.take_length]
variable {o i value:Expr}{pos pos':Pos}{td ty tv:TE}
theorem j2a {k:Nat} (hr:Room k X.A) (ho:PE X o td) (hi:PE X i ty) (hs:NoSl i):PE X (.Subscript o i pos) (jkd td ty):=jg6 (by have:=hr.un;omega) ho hi hs
theorem j91 {k:Nat} (hr:Room k X.A) (ho:PE X o td) (hi:PE X i ty) (hv:PE X value tv) (hs:swapsWith value (some (.Subscript o i pos')) pos.line X.env=pure false):PS X (.Assign [.Subscript o i pos'] value pos) (jke td ty tv):=jg7 (by have:=hr.un;omega) ho hi hv hs
end
section
variable {K:PySem.W.Frag}{σ:St}{H:Hp}{Q:VK}{td ty tv:TE}
theorem jfm {p:Addr}{xs:List V}{lo hi:Option Int} (h:H p=some (.tup xs)) (q:∀ l H',H' l=some (.tup (cutV xs lo hi))→Ext H H'→Q (.ref l) H'):rSlV K (.ref p) lo hi H Q:=by
 by_cases c:HT.sIx xs.length 0 lo=0∧HT.sIx xs.length xs.length hi=xs.length
 ·exact .inl (.inr ⟨p,xs,rfl,SqT.of h,c,q p H (by rw[jb6 c];exact h) Ext.rfl'⟩)
 ·exact .inl (.inl (jle h c fun l H' _ h1 h2=>q l H' h1 h2))
def rDGet (x y:V) (H:Hp) (Q:VK):Prop:=∃ a v,x=.ref a∧DGet H a y (some v)∧Q v H
def rDPut (x y v:V) (H:Hp) (R:Hp→Prop):Prop:=∃ a H4,x=.ref a∧DPut H a y v H4∧R H4
theorem r_dget (q:td σ H fun x H1=>ty σ H1 fun y H2=>rDGet x y H2 Q):jkd td ty σ H Q:=q
theorem r_dput {D:Ends} (q:tv σ H fun v H1=>td σ H1 fun x H2=>ty σ H2 fun y H3=>rDPut x y v H3 fun H4=>D.nx σ H4):jke td ty tv D σ H:=q
end
section
variable {X:Cx}
def tOr2 (t u:TE):TE:=fun σ H Q=>t σ H Q∨u σ H Q
theorem je7 {e:Expr}{t u:TE} (h1:PE X e t) (h2:PE X e u):PE X e (tOr2 t u):=fun pins s σ H Q I h=>h.elim (fun z=>h1 pins s σ H Q I z) fun z=>h2 pins s σ H Q I z
theorem je8 {t u:TE}{σ:St}{H:Hp}{Q:VK} (q:t σ H Q):tOr2 t u σ H Q:=.inl q
theorem jb7 {t u:TE}{σ:St}{H:Hp}{Q:VK} (q:u σ H Q):tOr2 t u σ H Q:=.inr q
end
theorem j4p {α:Type}:∀ (l:List α) (i:Nat) (h:i < l.length),(l[i] :: l.eraseIdx i).Perm l
 | a :: l,0,h=>List.Perm.refl _
 | a :: l,i+1,h=>(List.Perm.swap a _ _).trans (List.Perm.cons a (j4p l i (Nat.lt_of_succ_lt_succ h)))
theorem jch {α:Type} (next:Nat→Nat):∀ (fuel k:Nat) (left:List α) (out:Array α),left.length=fuel→(pickOrder.go next fuel k left out).toList.Perm (out.toList++left)
 | 0,k,left,out,h=>by
  rw[List.length_eq_zero_iff.mp h,List.append_nil]
  exact List.Perm.refl _
 | fuel+1,k,left,out,h=>by
  have lt:next k % left.length < left.length:=Nat.mod_lt _ (by omega)
  unfold pickOrder.go
  rw[List.getElem?_eq_getElem lt]
  refine (jch next fuel (k+1) _ _ (by rw[List.length_eraseIdx_of_lt lt];omega)).trans ?_
  rw[Array.toList_push,List.append_assoc]
  exact List.Perm.append_left _ (j4p _ _ lt)
theorem jb8 {α:Type} (next:Nat→Nat) (xs:Array α):(pickOrder next xs).toList.Perm xs.toList:=jch next xs.size 0 xs.toList #[] (Array.length_toList ..)
theorem j92:Manifest.owners.lookup (String.ofList ['r','o','t','a','r','e','t','i','_','t','e','s'].reverse)=some Manifest.sig_set_iterator:=by kernel_rfl
theorem j2b:Slot "set_iterator" "__next__" "set_iterator.__next__":=.of (owner:="set_iterator") (n:="__next__") (by rw[typeLookup_type,builtinLookup_eq_fast];kernel_rfl) (by decide +kernel) (by decide +kernel) (by decide +kernel) (by first | exact .inl (by decide +kernel) | exact .inr (by decide +kernel)) (by rw[isSubtype_type];kernel_rfl)
theorem j93:entryFor table "set_iterator.__next__"=some Builtin.«set_iterator.__next__»:=entryFor_of_tree (by kernel_rfl)
theorem j94 (a:Value):argsOk "set_iterator.__next__" ⟨[a],[]⟩:=by unfold argsOk;rw[signature?_of (id:="set_iterator.__next__") (n:=['_','_','t','x','e','n','_','_']) (o:=['r','o','t','a','r','e','t','i','_','t','e','s']) (by kernel_rfl) j92];kernel_rfl
theorem j95:Slot "set_iterator" "__iter__" "set_iterator.__iter__":=.of (owner:="set_iterator") (n:="__iter__") (by rw[typeLookup_type,builtinLookup_eq_fast];kernel_rfl) (by decide +kernel) (by decide +kernel) (by decide +kernel) (by first | exact .inl (by decide +kernel) | exact .inr (by decide +kernel)) (by rw[isSubtype_type];kernel_rfl)
theorem je9 (a:Value):argsOk "set_iterator.__iter__" ⟨[a],[]⟩:=by unfold argsOk;rw[signature?_of (id:="set_iterator.__iter__") (n:=['_','_','r','e','t','i','_','_']) (o:=['r','o','t','a','r','e','t','i','_','t','e','s']) (by kernel_rfl) j92];kernel_rfl
theorem jea:entryFor table "set_iterator.__iter__"=some Builtin.«dict_keyiterator.__iter__»:=entryFor_alias (id':="dict_keyiterator.__iter__") (by kernel_rfl) (by first | rfl | decide +kernel | (unfold String.splitOn;simp +decide [String.splitOnAux])) (by decide +kernel) (by kernel_rfl)
theorem jeb:entryFor table "set.__iter__"=some Builtin.«frozenset.__iter__»:=entryFor_alias (id':="frozenset.__iter__") (by kernel_rfl) (by first | rfl | decide +kernel | (unfold String.splitOn;simp +decide [String.splitOnAux])) (by decide +kernel) (by kernel_rfl)
def byT (w:World):Bool:=w.params.followText "set-order"
abbrev stObj (es:Array (Int × Value)) (ep:Nat) (t:SetTable):Obj:={ cls:=.type "set",dict:=none,data:=.set es ep t,slots:=#[] }
abbrev siObj (f i:Nat) (S:Addr) (n ep:Nat):Obj:={ cls:=.type "set_iterator",dict:=none,data:=.fields #[rawInt f,rawInt i,.ref S,rawInt n,rawInt ep],slots:=#[] }
structure Rise (t:SetTable) (n:Nat) (sl:Nat→Nat):Prop where
 fits:t.fits n=true
 plain:t.plain=true
 zero:sl 0=0
 low:∀ i,i≤n→SetTable.below t.place (sl i)=i
 step:∀ i,i < n→∃ j,t.place[i]?=some j∧j+1=sl (i+1)
def fsOf (w:World) (sl:Nat→Nat) (i:Nat):Nat:=if byT w then 0 else sl i
def j6v (w:World) (S:Addr) (ep:Nat) (es:Array (Int × Value)):Array (Int × Value):=if byT w then pickOrder (w.params.setOrder S ep) es else es
theorem j5r (w:World) (S:Addr) (ep:Nat) (es:Array (Int × Value)):(j6v w S ep es).toList.Perm es.toList:=by
 unfold j6v
 split
 ·exact jb8 _ _
 ·exact List.Perm.refl _
theorem j3z (w:World) (S:Addr) (ep:Nat) (es:Array (Int × Value)):(j6v w S ep es).size=es.size:=by
 rw[← Array.length_toList,(j5r w S ep es).length_eq,Array.length_toList]
section
variable {prog:Program}{w:World}{A:Around}{E:Value→Shared→Prop}{s:Shared}
theorem j40 {Q:Bool→Shared→Prop} (h:Q (byT w) s):wpAny (model prog w) A setsByText Q E s:=by
 unfold setsByText
 skip;exact wpAny_bind (wpAny_askSetting (wpAny_pure h))
theorem j4q {S:Addr}{es:Array (Int × Value)}{ep i:Nat}{t:SetTable}{sl:Nat→Nat}{Q:Option (Value × Nat)→Shared→Prop} (hS:s.heap.get? S=some (stObj es ep t)) (R:Rise t es.size sl) (hled:t.led=!byT w) (hi:i≤es.size)
  (h:Q (((j6v w S ep es)[i]?).map fun e=>(e.2,fsOf w sl (i+1))) s):wpAny (model prog w) A (setNext S (fsOf w sl i) i ep) Q E s:=by
 unfold setNext
 refine wpAny_bind (wpAny_setState_of hS rfl R.fits (wpAny_bind (j40 ?_)))
 unfold j6v fsOf at h
 unfold fsOf
 by_cases hb:byT w=true
 ·rw[hb] at h ⊢
  simp only[if_true] at h ⊢
  rw[if_neg (by simp)]
  refine wpAny_bind ?_
  unfold setWalk
  refine wpAny_bind (wpAny_setState_of hS rfl R.fits (wpAny_bind (j40 ?_)))
  rw[hb]
  exact wpAny_bind (wpAny_askSetting (wpAny_pure (wpAny_pure h)))
 ·rw[Bool.not_eq_true] at hb
  rw[hb] at h hled ⊢
  simp only[Bool.false_eq_true,if_false] at h ⊢
  show wpAny _ _ (if (!t.plain && decide (es.size > 1))=true then _ else _) _ _ _
  rw[R.plain]
  rw[if_neg (by simp)]
  refine wpAny_bind ?_
  show wpAny _ _ (if (!t.led && !es.isEmpty)=true then _ else _) _ _ _
  rw[hled,if_neg (by simp)]
  refine wpAny_pure ?_
  rw[R.low i hi]
  by_cases hlt:i < es.size
  ·obtain⟨j,e1,e2⟩:=R.step i hlt
   rw[Array.getElem?_eq_getElem hlt] at h ⊢
   rw[e1]
   dsimp only[Option.map] at h ⊢
   rw[e2]
   exact wpAny_pure h
  ·rw[Array.getElem?_eq_none (by omega)] at h ⊢
   exact wpAny_pure h
theorem jhk {I S:Addr}{es:Array (Int × Value)}{ep i:Nat}{t:SetTable}{sl:Nat→Nat}{x:Int × Value}{Q:Option Value→Shared→Prop} (hI:s.heap.get? I=some (siObj (fsOf w sl i) i S es.size ep)) (hS:s.heap.get? S=some (stObj es ep t)) (R:Rise t es.size sl) (hled:t.led=!byT w) (hi:i < es.size) (ne:S≠I)
  (hx:(j6v w S ep es)[i]?=some x) (hQ:∀ h',h'.get? I=some (siObj (fsOf w sl (i+1)) (i+1) S es.size ep)→Heap.SameBut I s.heap h'→Q (some x.2) { s with heap:=h' }):wpAny (model prog w) A (pyNext (.ref I)) Q E s:=by
 have te:s.TypeIs (.ref I) "set_iterator":=⟨_,hI,rfl⟩
 unfold pyNext
 refine wpAny_bind (wpAny_attempt (wpAny_callSpecial?_slot (name:=Str.ofString "__next__") te j2b (wpAny_call_entry j2b te j93 ?_ (j94 _))))
 unfold Builtin.«set_iterator.__next__»
 refine wpAny_bind (wpAny_of_eq (a:=(Value.ref I,[])) rfl ?_)
 refine wpAny_bind (wpAny_fieldsOf hI rfl ?_)
 show wpAny _ _ (setEntries S >>= _) _ _ _
 refine wpAny_bind (wpAny_setEntries_of hS rfl R.fits ?_)
 rw[if_neg (by simp)]
 show wpAny _ _ (setNext S (fsOf w sl i:Int).toNat (i:Int).toNat (ep:Int).toNat >>= _) _ _ _
 rw[Int.toNat_natCast,Int.toNat_natCast,Int.toNat_natCast]
 refine wpAny_bind (j4q hS R hled (by omega) ?_)
 rw[hx]
 show wpAny _ _ (setField (.ref I) 0 (rawInt (fsOf w sl (i+1):Nat)) >>= _) _ _ _
 refine wpAny_bind (wpAny_setField_rec hI (by simp) fun g1 e1 s1=>wpAny_bind (wpAny_setField_rec e1 (by simp) fun g2 e2 s2=>?_))
 refine wpAny_pure ⟨_,rfl,wpAny_pure (hQ g2 ?_ (s1.trans s2))⟩
 exact e2
theorem si_end {I S:Addr}{es:Array (Int × Value)}{ep:Nat}{t:SetTable}{sl:Nat→Nat}{Q:Option Value→Shared→Prop} (hh:A.handled=none) (hI:s.heap.get? I=some (siObj (fsOf w sl es.size) es.size S es.size ep)) (hS:s.heap.get? S=some (stObj es ep t)) (R:Rise t es.size sl) (hled:t.led=!byT w)
  (hQ:∀ h',(∀ b o,b≠I→s.heap.get? b=some o→h'.get? b=some o)→Q none { s with heap:=h' }):wpAny (model prog w) A (pyNext (.ref I)) Q E s:=by
 have te:s.TypeIs (.ref I) "set_iterator":=⟨_,hI,rfl⟩
 unfold pyNext
 refine wpAny_bind (wpAny_attempt (wpAny_callSpecial?_slot (name:=Str.ofString "__next__") te j2b (wpAny_call_entry j2b te j93 ?_ (j94 _))))
 unfold Builtin.«set_iterator.__next__»
 refine wpAny_bind (wpAny_of_eq (a:=(Value.ref I,[])) rfl ?_)
 refine wpAny_bind (wpAny_fieldsOf hI rfl ?_)
 show wpAny _ _ (setEntries S >>= _) _ _ _
 refine wpAny_bind (wpAny_setEntries_of hS rfl R.fits ?_)
 rw[if_neg (by simp)]
 show wpAny _ _ (setNext S (fsOf w sl es.size:Int).toNat (es.size:Int).toNat (ep:Int).toNat >>= _) _ _ _
 rw[Int.toNat_natCast,Int.toNat_natCast,Int.toNat_natCast]
 refine wpAny_bind (j4q hS R hled (Nat.le_refl _) ?_)
 rw[Array.getElem?_eq_none (by rw[j3z];exact Nat.le_refl _)]
 show wpAny _ _ (setField (.ref I) 2 .none >>= _) _ _ _
 refine wpAny_bind (wpAny_setField_rec hI (by simp) fun g1 e1 s1=>?_)
 have kk:∀ b o,b≠I→s.heap.get? b=some o→g1.get? b=some o:=fun b o q h=>s1.extBut b o q h
 refine wpAny_bind ?_;simp only[newExc,newTuple];refine wpAny_bind (wpAny_newObj_type (wpAny_bind (m:=firstArgMember _ _) (wpAny_of_eq (a:=Value.none) (by first | rfl | (simp only[firstArgMember];rfl)) (wpAny_newObj_type ?_ (by size_fits)))) (by size_fits))
 simp only[raiseNew];refine wpAny_bind (wpAny_handled ?_);first | rw[show A.in1.handled=none from hh] | rw[hh]
 refine wpAny_bind (wpAny_pure (wpAny_throw ?_));refine wpAny_bind (wpAny_isInstance (T:="StopIteration") (b:=true) ⟨_,Heap.get?_push_size _ rfl,rfl⟩ isSubtype_stop ?_)
 exact wpAny_pure (hQ _ fun b o q h=>Heap.get?_push_of_some _ (Heap.get?_push_of_some _ (kk b o q h)))
theorem jhl {I S:Addr}{f i n ep:Nat}{Q:Value→Shared→Prop} (hI:s.heap.get? I=some (siObj f i S n ep)) (h:Q (.ref I) s):wpAny (model prog w) A (pyIter (.ref I)) Q E s:=by
 have te:s.TypeIs (.ref I) "set_iterator":=⟨_,hI,rfl⟩
 refine wpAny_pyIter_slot te j95 (wpAny_call_entry j95 te jea ?_ (je9 _))
 exact wpAny_pure ⟨_,rfl,"set_iterator",_,te,j2b.lookup,h⟩
theorem jhm {S:Addr}{es:Array (Int × Value)}{ep:Nat}{t:SetTable}{sl:Nat→Nat}{Q:Value→Shared→Prop} (hS:s.heap.get? S=some (stObj es ep t)) (R:Rise t es.size sl)
  (h:Q (.ref s.heap.objs.size) { s with heap:=s.heap.push (siObj 0 0 S es.size ep) }):wpAny (model prog w) A (pyIter (.ref S)) Q E s:=by
 have te:s.TypeIs (.ref S) "set":=⟨_,hS,rfl⟩
 refine wpAny_pyIter_slot te PySem.F.slot_set_iter (wpAny_call_entry PySem.F.slot_set_iter te jeb ?_ (PySem.F.args_set_iter_1 _))
 unfold Builtin.«frozenset.__iter__»
 refine wpAny_bind (wpAny_of_eq (a:=S) rfl ?_)
 unfold Builtin.Frozenset.sizeOf
 refine wpAny_bind (wpAny_bind (wpAny_setEntries_of hS rfl R.fits (wpAny_pure ?_)))
 refine wpAny_bind ?_
 unfold setDrawn
 refine wpAny_bind (wpAny_setState_of hS rfl R.fits (wpAny_bind (j40 (wpAny_pure ?_))))
 have e:(!byT w && (!t.plain && decide (es.size > 1)))=false:=by rw[R.plain];simp
 show wpAny _ _ (if (!byT w && (!t.plain && decide (es.size > 1)))=true then _ else _) _ _ _
 rw[e,if_neg (by decide)]
 refine wpAny_bind (wpAny_pure ?_)
 refine wpAny_bind (wpAny_setEpoch_of hS rfl R.fits ?_)
 exact wpAny_bind (wpAny_newObj_type (wpAny_pure ⟨_,rfl,"set_iterator",_,⟨_,Heap.get?_push_size _ rfl,rfl⟩,j2b.lookup,h⟩))
end
theorem jec {prog:Program}{w:World}{A:Around} (hh:A.handled=none) (I S:Addr) (ne:S≠I) {es:Array (Int × Value)}{ep:Nat}{t:SetTable}{sl:Nat→Nat} (R:Rise t es.size sl) (hled:t.led=!byT w) :
  Walks prog w A I [I,S] [I] es.size (fun i v=>((j6v w S ep es)[i]?).map (·.2)=some v) (fun i h=>i≤es.size∧h.get? I=some (siObj (fsOf w sl i) i S es.size ep)∧h.get? S=some (stObj es ep t)) where
 sub:=fun b hb=>by rw[List.mem_singleton.mp hb];simp
 frame:=fun _ _ _ x hk=>⟨x.1,hk I (by simp) _ x.2.1,hk S (by simp) _ x.2.2⟩
 item:=fun i s Q E hi x (hQ)=>by
  have hx:(j6v w S ep es)[i]?=some ((j6v w S ep es)[i]'(by rw[j3z];exact hi)):=Array.getElem?_eq_getElem _
  refine jhk x.2.1 x.2.2 R hled hi ne hx fun h' hit' hs'=>?_
  exact hQ _ h' s.toks (by rw[hx];rfl) ⟨hi,hit',(hs'.2 S ne).trans x.2.2⟩ fun b o hb eo=>hs'.extBut b o (fun h=>hb (by simp[h])) eo
 done:=fun s Q E x hQ=>si_end hh x.2.1 x.2.2 R hled fun h' he'=>hQ h' s.toks fun b o hb eo=>he' b o (fun h=>hb (by simp[h])) eo
 self:=fun _ _ _ _ x hQ=>jhl x.2.1 hQ
theorem st_sub:isSubtype (.type "set") (.type "set")=pure true:=by rw[isSubtype_type];kernel_rfl
section
variable {prog:Program}{w:World}{A:Around}{E:Value→Shared→Prop}{s:Shared}
theorem j4r {S:Addr}{es:Array (Int × Value)}{ep:Nat}{t:SetTable}{sl:Nat→Nat}{Q:List Value→Shared→Prop} (hh:A.handled=none) (hS:s.heap.get? S=some (stObj es ep t)) (R:Rise t es.size sl) (hled:t.led=!byT w) (hz:es.size≤sizeLine)
  (hQ:∀ s' acc,Moved [] (fun a b=>b=a) s s'→ItemsOf (fun i v=>((j6v w S ep es)[i]?).map (·.2)=some v) acc es.size→Q acc.toList s'):wpAny (model prog w) A (collect (.ref S)) Q E s:=by
 have lS:S < s.heap.objs.size:=Heap.lt_size hS
 have nd:s.heap.objs.size≠S:=Nat.ne_of_gt lS
 unfold collect;refine wpAny_bind (wpAny_runValue (codeAny_builtin F.entry_proto_collect ?_));rw[Around.under_plainId F.plain_proto_collect _]
 show wpAny _ A.in1 (newList [] >>= fun x=>again (.builtin "list.__iadd__" ⟨[x,.ref S],[]⟩)) _ _ s
 refine wpAny_bind (wpAny_newObj_type (wpAny_pure ⟨plainId_quiet F.plain_list_iadd _,codeAny_builtin F.entry_list_iadd ?_⟩));rw[Around.under_plainId F.plain_list_iadd _]
 have d1:(s.heap.push { cls:=.type "list",data:=.seq ([]:List Value).toArray }).get? S=some (stObj es ep t):=Heap.get?_push_of_some _ hS
 have S1:(s.heap.push { cls:=.type "list",data:=.seq ([]:List Value).toArray }).get? s.heap.objs.size=some { cls:=.type "list",data:=.seq ([]:List Value).toArray }:=Heap.get?_push_size _ rfl
 have same:Builtin.List.listSameRef (.ref s.heap.objs.size) (.ref S)=false:=by simp[Builtin.List.listSameRef,nd]
 show wpAny _ A.in1 (Builtin.List.listExtendWith (.ref s.heap.objs.size) (.ref S) (.ref s.heap.objs.size)) _ _ _;unfold Builtin.List.listExtendWith
 refine wpAny_bind (wpAny_typeOf (T:="set") ⟨_,d1,rfl⟩ ?_)
 rw[if_neg (by rw[same];decide)]
 refine wpAny_bind (jhm d1 R (wpAny_bind (wpAny_holding ?_)))
 have n1:(s.heap.push { cls:=.type "list",data:=.seq ([]:List Value).toArray }).objs.size=s.heap.objs.size+1:=by rw[Heap.size_push]
 rw[n1]
 have I2:((s.heap.push { cls:=.type "list",data:=.seq ([]:List Value).toArray }).push (siObj 0 0 S es.size ep)).get? (s.heap.objs.size+1)=some (siObj 0 0 S es.size ep):=by rw[← n1];exact Heap.get?_push_size _ rfl
 have d2:((s.heap.push { cls:=.type "list",data:=.seq ([]:List Value).toArray }).push (siObj 0 0 S es.size ep)).get? S=some (stObj es ep t):=Heap.get?_push_of_some _ d1
 have S2:((s.heap.push { cls:=.type "list",data:=.seq ([]:List Value).toArray }).push (siObj 0 0 S es.size ep)).get? s.heap.objs.size=some { cls:=.type "list",data:=.seq ([]:List Value).toArray }:=Heap.get?_push_of_some _ S1
 have te:Shared.TypeIs { s with heap:=(s.heap.push { cls:=.type "list",data:=.seq ([]:List Value).toArray }).push (siObj 0 0 S es.size ep) } (.ref S) "set":=⟨_,d2,rfl⟩
 unfold Builtin.List.listLengthHint;refine wpAny_bind (wpAny_specialOf (T:="set") te PySem.F.slot_set_len.lookup ?_)
 (generalize hid:("set.__len__":String)=id0;(fail_if_success (clear hid id0));wp_delta;rw[show splitId id0=some ("set","__len__") from by subst hid;decide +kernel];subst hid)
 refine wpAny_bind (wpAny_isInstance (T:="set") (b:=true) te st_sub ?_)
 rw[if_neg (by decide)];rw[if_pos (by decide +kernel)]
 refine wpAny_bind (wpAny_typeOf (T:="set") te (wpAny_pure ?_))
 rw[if_pos (by decide +kernel)]
 refine wpAny_bind (wpAny_rule (wpAny_bind ?_))
 have S3:=Heap.get?_update_self (Obj.mapSeq (·.push Value.none)) S2 rfl
 show wpAny _ A.in1 (updateSeq s.heap.objs.size (·.push .none) >>= fun _=>updateSeq s.heap.objs.size (·.pop)) _ _ _;refine wpAny_bind (wpAny_updateSeq S2 rfl (wpAny_updateSeq S3 rfl ?_))
 have S4:=Heap.get?_update_self (Obj.mapSeq (·.pop)) S3 rfl
 have oth:∀ b o,b≠s.heap.objs.size→((s.heap.push { cls:=.type "list",data:=.seq ([]:List Value).toArray }).push (siObj 0 0 S es.size ep)).get? b=some o→((((s.heap.push { cls:=.type "list",data:=.seq ([]:List Value).toArray }).push (siObj 0 0 S es.size ep)).update s.heap.objs.size (Obj.mapSeq (·.push Value.none))).update s.heap.objs.size (Obj.mapSeq (·.pop))).get? b=some o :=
  fun b o nb e=>(Heap.get?_update_other _ _ (Ne.symm nb)).trans ((Heap.get?_update_other _ _ (Ne.symm nb)).trans e)
 have neI:S≠s.heap.objs.size+1:=Nat.ne_of_lt (Nat.lt_succ_of_lt lS)
 have W:=(jec (prog:=prog) (w:=w) (A:=A.in1) hh (s.heap.objs.size+1) S neI (ep:=ep) R hled).toS
 have nS:s.heap.objs.size∉[s.heap.objs.size+1,S]:=by
  simp only[List.mem_cons,List.mem_nil_iff,or_false,not_or]
  exact⟨Nat.ne_of_lt (Nat.lt_succ_self _),nd⟩
 have z0:fsOf w sl 0=0:=by unfold fsOf;rw[R.zero,ite_self]
 refine wpAny_pure ⟨plainId_quiet F.plain_extend_loop _,codeAny_extend_loopS W hz _ nS _ es.size 0 _ _ _ rfl (Nat.zero_le _) ⟨Nat.zero_le _,?_,oth S _ nd.symm d2⟩ S4 (ItemsOf.nil _) fun s' acc' c' hm hS' hacc=>wpAny_bind (wpAny_load hS' (wpAny_pure (hQ s' acc' ⟨fun b o _ e=>?_,hm.gens,hm.drawn,hm.os,hm.toks⟩ hacc)))⟩
 ·rw[z0]
  exact oth _ _ (Nat.ne_of_gt (Nat.lt_succ_self _)) I2
 ·have lb:=Heap.lt_size e
  refine hm.heap b o (fun q=>?_) (oth b o (Nat.ne_of_lt lb) (Heap.get?_push_of_some _ (Heap.get?_push_of_some _ e)))
  rcases List.mem_cons.mp q with q | q
  ·exact Nat.ne_of_lt lb q
  ·exact Nat.ne_of_lt (Nat.lt_succ_of_lt lb) (List.mem_singleton.mp q)
theorem jb9 {us vs:List Value} (p:us.Perm vs):∀ {ns:List Int},IntsAre vs ns→∃ ns1,IntsAre us ns1∧ns1.Perm ns:=by
 induction p with
 | nil=>intro ns h;exact⟨ns,h,List.Perm.refl _⟩
 | cons x _ ih =>
  intro ns h
  cases h with
  | cons n t r =>
   obtain⟨m,a,b⟩:=ih r
   exact⟨n :: m,.cons n t a,b.cons n⟩
 | swap x y l =>
  intro ns h
  cases h with
  | cons n t r =>
   cases r with
   | cons n2 t2 r2=>exact⟨_,.cons n2 t2 (.cons n t r2),List.Perm.swap _ _ _⟩
 | trans _ _ i1 i2 =>
  intro ns h
  obtain⟨m,a,b⟩:=i2 h
  obtain⟨m2,a2,b2⟩:=i1 a
  exact⟨m2,a2,b2.trans b⟩
theorem j2x {P:Nat→Value→Prop}{ys:List Value}{acc:Array Value} (h:ItemsOf P acc ys.length) (hp:∀ i v,P i v→ys[i]?=some v):acc.toList=ys:=by
 refine List.ext_getElem? fun i=>?_
 by_cases hi:i < acc.size
 ·have e:acc.toList[i]?=some acc[i]:=by rw[Array.getElem?_toList];exact Array.getElem?_eq_getElem hi
  rw[e]
  exact (hp i _ (h.2 i _ (Array.getElem?_eq_getElem hi))).symm
 ·rw[List.getElem?_eq_none (by rw[Array.length_toList];omega),List.getElem?_eq_none (by have:=h.1;omega)]
theorem jba {S:Addr}{es:Array (Int × Value)}{ep:Nat}{t:SetTable}{sl:Nat→Nat}{ns:List Int}{Q:Value→Shared→Prop} (hh:A.handled=none) (hS:s.heap.get? S=some (stObj es ep t)) (R:Rise t es.size sl) (hled:t.led=!byT w) (h64:es.size < 64) (hI:IntsAre (es.toList.map (·.2)) ns)
  (h:∀ (s':Shared) (h':Heap) (a:Addr) (out:List Value) (e:Nat) (ns':List Int),(∀ b o,s.heap.get? b=some o→h'.get? b=some o)→S < a→h'.get? a=some (seqObj "list" out.toArray e)→IntsAre out ns'→ns'.Perm ns→ns'.Pairwise (·≤·)→Q (.ref a) { s with heap:=h',toks:=s'.toks }):wpAny (model prog w) A (call (.builtin "sorted") [.ref S]) Q E s:=by
 have hz:es.size≤sizeLine:=by rw[sizeLine_eq];omega
 refine Calls.call_function_entry kind_sorted plain_sorted entry_sorted (args_sorted1 _) ?_;unfold Builtin.«sorted»
 refine wpAny_bind (m:=checkCount "sorted" 1 1 _) (wpAny_pure (wpAny_bind (j4r hh hS R hled hz fun s' acc hm ha=>?_)))
 have ea:acc.toList=(j6v w S ep es).toList.map (·.2):=by
  refine j2x (P:=fun i v=>((j6v w S ep es)[i]?).map (·.2)=some v) (by rw[List.length_map,Array.length_toList,j3z];exact ha) fun i v hv=>?_
  rw[List.getElem?_map,Array.getElem?_toList]
  exact hv
 have hp:(acc.toList).Perm (es.toList.map (·.2)):=by rw[ea];exact (j5r w S ep es).map _
 obtain⟨ns1,i1,p1⟩:∃ ns1,IntsAre acc.toList ns1∧ns1.Perm ns:=jb9 hp hI
 have l1:acc.toList.length < 64:=by rw[hp.length_eq,List.length_map,Array.length_toList];exact h64
 skip;refine wpAny_bind (wpAny_newList ?_ (by rw[sizeLine_eq];omega))
 have o1:(s'.heap.push (seqObj "list" acc.toList.toArray 0)).get? s'.heap.objs.size=some (seqObj "list" acc.toList.toArray 0):=Heap.get?_push_size _ rfl
 have le:S < s'.heap.objs.size:=Heap.lt_size (hm.heap S _ (by simp) hS)
 refine wpAny_bind (wpAny_holding (wpAny_call_entry slot_list_sort ⟨_,o1,rfl⟩ entry_list_sort (list_sort_tree o1 i1 l1 fun out ns' a1 a2 a3=>⟨_,rfl,wpAny_pure ⟨_,rfl,?_⟩⟩) (args_list_sort _)))
 obtain⟨h',g',d',t',q'⟩:=s'
 skip;have eg:g'=s.gens:=hm.gens
 skip;have ed:d'=s.drawn:=hm.drawn
 have eo:q'=s.os:=hm.os
 subst eg ed eo
 obtain⟨e,he⟩:=sortedHeap_at (out:=out) o1
 refine h ⟨h',s.gens,s.drawn,t',s.os⟩ _ _ out.toList e ns' (fun b o eb=>?_) le (by simpa using he) a1 (a2.trans p1) a3
 have hb:=hm.heap b o (by simp) eb
 have lb:=Heap.lt_size hb
 refine (sortedHeap_old (Nat.ne_of_lt lb) ?_).trans (Heap.get?_push_of_some _ hb)
 rw[Heap.size_push]
 exact Nat.lt_succ_of_lt lb
end
def tabN (led:Bool) (k:Nat):SetTable:={ mask:=if k < 5 then 7 else 31,place:=Array.range k,dummies:=#[],finger:=0,led:=led,moves:=if k < 5 then 0 else 1,plain:=true }
theorem j3n {α:Type} (xs:List α):∀ k,k≤xs.length→(List.range k).filterMap (xs[·]?)=xs.take k
 | 0,_=>rfl
 | k+1,h=>by
  have e:xs[k]?=some (xs[k]'(by omega)):=List.getElem?_eq_getElem (by omega)
  rw[List.range_succ,List.filterMap_append,j3n xs k (by omega),List.take_add_one,e]
  simp[e]
section
variable {prog:Program}{w:World}{A:Around}{E:Value→Shared→Prop}{s:Shared}
theorem j96 (a:Value) {QN:Value→Shared→Prop} (h:QN (.ref s.heap.objs.size) { s with heap:=s.heap.push (newSet (!byT w)) }) :
  codeAny (model prog w) A (.call (.builtin "set.__new__") ⟨[.type "set",a],[]⟩) (wants QN E) s:=by
 refine codeAny_of_tree ?_;show wpAny _ A.in1 (do checkBuiltinCall "set.__new__" ⟨[.type "set",a],[]⟩;again (.builtin "set.__new__" ⟨[.type "set",a],[]⟩)) _ _ s
 refine wpAny_bind (wpAny_of_eq (PySem.F.newCall_set_1 a) (wpAny_pure ⟨plainId_quiet PySem.F.plain_set_new _,codeAny_builtin PySem.F.entry_set_new ?_⟩));rw[Around.under_plainId PySem.F.plain_set_new _]
 skip;unfold Builtin.«set.__new__» Builtin.Frozenset.newClass
 have hsub:=sub_set_self
 skip;obtain⟨hp,g,d,tk,os⟩:=s
 dsimp only;wp_walk
 refine wpAny_askSetting (wpAny_pure ?_);dsimp only;simp only[newObj]
 skip;refine wpAny_bind (wpAny_alloc (wpAny_pure (wpAny_pure h)))
end
end L2
set_option Elab.async false
set_option linter.all false
set_option maxRecDepth 100000
set_option maxHeartbeats 4000000
namespace L2
open PySem PySem.Spec PyProof.Rows PySem.W
section
variable {O:KeyOrd}{k:Nat→O.α}{n:Nat}{s:Shared}{cmp:Nat→Nat→(Bool→Shared→Prop)→Shared→Prop}
def kAt (k:Nat→O.α) (p:Array Nat) (i:Nat):O.α:=k (p[i]?.getD 0)
def Asc (k:Nat→O.α) (p:Array Nat) (m:Nat):Prop:=∀ i j,i≤j→j < m→O.kle (kAt k p i) (kAt k p j)
def Dsc (k:Nat→O.α) (p:Array Nat) (m:Nat):Prop:=∀ i j,i≤j→j < m→O.kle (kAt k p j) (kAt k p i)
def OkP (n:Nat) (p:Array Nat):Prop:=p.toList.Perm (List.range n)
theorem OkP.size {p:Array Nat} (h:OkP n p):p.size=n:=by have:=h.length_eq;simpa using this
theorem OkP.lt {p:Array Nat} (h:OkP n p) {i:Nat} (hi:i < n):p[i]?.getD 0 < n:=by
 have hs:=h.size
 rw[Array.getElem?_eq_getElem (by omega),Option.getD_some]
 exact List.mem_range.mp (h.mem_iff.mp (by simp))
theorem OkP.of {p q:Array Nat} (h:OkP n p) (e:q.Perm p):OkP n q:=(Array.perm_iff_toList_perm.mp e).trans h
theorem OkP.rev {p:Array Nat} (h:OkP n p) (i j:Nat):OkP n (kas_rev p i j):=h.of (mirror_perm _ _ _ _)
theorem OkP.bub {p:Array Nat} (h:OkP n p) (i j:Nat):OkP n (bubble p i j):=h.of (bubble_perm _ _ _)
theorem j97 {p:Array Nat}{i j:Nat} (hj:j≤p.size) (m:Nat):kAt k (kas_rev p i j) m=if i≤m∧m < j then kAt k p (i+j-1-m) else kAt k p m:=by
 unfold kAt kas_rev
 rw[getElem?_mirror_all hj]
 split <;> rfl
theorem j1z {p:Array Nat}{i j:Nat} (hj:j≤p.size) (he:∀ m,i≤m→m < j→kAt k p m=kAt k p (j-1)) (m:Nat):kAt k (kas_rev p i j) m=kAt k p m:=by
 rw[j97 hj]
 split
 ·rw[he _ (by omega) (by omega),he m (by omega) (by omega)]
 ·rfl
theorem jci {p:Array Nat}{a d:Nat} (ha:a < p.size) (hd:d≤a) (m:Nat):kAt k (bubble p a d) m=if m=a-d then kAt k p a else if a-d < m∧m≤a then kAt k p (m-1) else kAt k p m:=by
 unfold kAt
 rw[getElem?_bubble ha d hd]
 split
 ·rfl
 ·split <;> rfl
def Tells (k:Nat→O.α) (n:Nat) (cmp:Nat→Nat→(Bool→Shared→Prop)→Shared→Prop) (s:Shared):Prop:=∀ i j,i < n→j < n→∀ C:Bool→Shared→Prop,C (O.blt (k i) (k j)) s→cmp i j C s
theorem Tells.at (T:Tells k n cmp s) {p:Array Nat} (h:OkP n p) {i j:Nat} (hi:i < n) (hj:j < n) {C:Bool→Shared→Prop} (c:C (O.blt (kAt k p i) (kAt k p j)) s):cmp (p.getD i 0) (p.getD j 0) C s:=by
 rw[Array.getD_eq_getD_getElem?,Array.getD_eq_getD_getElem?]
 exact T _ _ (h.lt hi) (h.lt hj) C c
theorem jed {p:Array Nat}{m:Nat} (h:Asc k p m) (h1:1≤m) (c:O.blt (kAt k p m) (kAt k p (m-1))=false):Asc k p (m+1):=by
 intro i j hij hj
 by_cases hm:j < m
 ·exact h i j hij hm
 ·obtain rfl:j=m:=by omega
  by_cases hi:i=j
  ·rw[hi];exact KeyOrd.kle_refl _
  ·exact KeyOrd.kle_trans (h i (j-1) (by omega) (by omega)) c
theorem jm2 (T:Tells k n cmp s) {p:Array Nat} (hp:OkP n p) {G:Nat→Shared→Prop}:∀ (f m:Nat),1≤m→m+f≤n→Asc k p m →
  (∀ r,m≤r→r≤m+f→Asc k p r→(r=m+f∨O.klt (kAt k p r) (kAt k p (r-1)))→G r s)→(kas_asc p f m).kasWp cmp G s
 | 0,m,h1,hn,hs,h=>h m (Nat.le_refl _) (Nat.le_refl _) hs (.inl rfl)
 | f+1,m,h1,hn,hs,h=>by
  show cmp (p.getD m 0) (p.getD (m-1) 0) (fun b s'=>(if b=true then KasT.ret m else kas_asc p f (m+1)).kasWp cmp G s') s
  refine T.at hp (by omega) (by omega) ?_
  cases c:O.blt (kAt k p m) (kAt k p (m-1)) with
  | true=>exact h m (Nat.le_refl _) (by omega) hs (.inr c)
  | false=>exact jm2 T hp f (m+1) (by omega) (by omega) (jed hs h1 c) fun r a b d e=>h r (by omega) (by omega) d (e.imp (fun z=>by omega) id)
def jee (k:Nat→O.α) (p:Array Nat) (m q:Nat):Prop:=q+1≤m∧∀ i,m-(q+1)≤i→i < m→kAt k p i=kAt k p (m-1)
theorem j5s {p:Array Nat}{m:Nat} (h:1≤m):jee k p m 0:=⟨h,fun i a b=>by rw[show i=m-1 by omega]⟩
theorem j5t {p p':Array Nat}{m:Nat} (e:∀ i,kAt k p' i=kAt k p i) (h:Dsc k p m) (h1:1≤m) (c:O.kle (kAt k p m) (kAt k p (m-1))):Dsc k p' (m+1):=by
 intro i j hij hj
 rw[e,e]
 by_cases hm:j < m
 ·exact h i j hij hm
 ·obtain rfl:j=m:=by omega
  by_cases hi:i=j
  ·rw[hi];exact KeyOrd.kle_refl _
  ·exact KeyOrd.kle_trans c (h i (j-1) (by omega) (by omega))
theorem jbb (T:Tells k n cmp s) {G:Array Nat × Nat × Nat→Shared→Prop}:∀ (f:Nat) (p:Array Nat) (m q:Nat),OkP n p→1≤m→m+f≤n→Dsc k p m→jee k p m q →
  (∀ p' r q',OkP n p'→m≤r→r≤m+f→Dsc k p' r→jee k p' r q'→G (p',r,q') s)→(kas_desc f p m q).kasWp cmp G s
 | 0,p,m,q,hp,h1,hn,hd,he,h=>h p m q hp (Nat.le_refl _) (Nat.le_refl _) hd he
 | f+1,p,m,q,hp,h1,hn,hd,he,h=>by
  show cmp (p.getD m 0) (p.getD (m-1) 0) (fun b s'=>(if b=true then (if q > 0 then kas_desc f (kas_rev p (m-(q+1)) m) (m+1) 0 else kas_desc f p (m+1) 0) else KasT.ask (p.getD (m-1) 0) (p.getD m 0) fun d=>if d=true then .ret (p,m,q) else kas_desc f p (m+1) (q+1)).kasWp cmp G s') s
  refine T.at hp (by omega) (by omega) ?_
  have hsz:=hp.size
  cases c:O.blt (kAt k p m) (kAt k p (m-1)) with
  | true =>
   rw[if_pos rfl]
   have cl:O.kle (kAt k p m) (kAt k p (m-1)):=KeyOrd.kle_of_klt c
   by_cases hq:q > 0
   ·rw[if_pos hq]
    exact jbb T f _ (m+1) 0 (hp.rev _ _) (by omega) (by omega) (j5t (j1z (by omega) he.2) hd h1 cl) (j5s (by omega)) fun p' r q' a b c d e=>h p' r q' a (by omega) (by omega) d e
   ·rw[if_neg hq]
    exact jbb T f p (m+1) 0 hp (by omega) (by omega) (j5t (fun _=>rfl) hd h1 cl) (j5s (by omega)) fun p' r q' a b c d e=>h p' r q' a (by omega) (by omega) d e
  | false =>
   rw[if_neg (by decide)]
   show cmp (p.getD (m-1) 0) (p.getD m 0) (fun b s'=>(if b=true then KasT.ret (p,m,q) else kas_desc f p (m+1) (q+1)).kasWp cmp G s') s
   refine T.at hp (by omega) (by omega) ?_
   cases d:O.blt (kAt k p (m-1)) (kAt k p m) with
   | true=>exact h p m q hp (Nat.le_refl _) (by omega) hd he
   | false =>
    have eq:kAt k p m=kAt k p (m-1):=KeyOrd.kle_antisymm d c
    refine jbb T f p (m+1) (q+1) hp (by omega) (by omega) (j5t (fun _=>rfl) hd h1 d) ⟨by have:=he.1;omega,fun i a b=>?_⟩ fun p' r q' a b c d e=>h p' r q' a (by omega) (by omega) d e
    rw[show m+1-1=m by omega]
    by_cases hi:i=m
    ·rw[hi]
    ·rw[eq];exact he.2 i (by omega) (by omega)
theorem jhn {p:Array Nat}{m:Nat} (hm:m≤p.size) (h:Dsc k p m):Asc k (kas_rev p 0 m) m:=by
 intro i j hij hj
 rw[j97 hm,j97 hm,if_pos (by omega),if_pos (by omega)]
 exact h _ _ (by omega) (by omega)
theorem jcj (T:Tells k n cmp s) {p:Array Nat}{m:Nat} (hp:OkP n p) (h1:1≤m) (hm:m≤n) (hd:Dsc k p m) {G:Nat × Array Nat→Shared→Prop}
  (h:∀ r p',OkP n p'→1≤r→r≤n→Asc k p' r→G (r,p') s):(kas_tail3 m n p).kasWp cmp G s:=by
 unfold kas_tail3
 rw[KasT.kasWp_bind]
 exact jm2 T (hp.rev _ _) _ m h1 (by omega) (jhn (by rw[hp.size];exact hm) hd) fun r a b c _=>h r _ (hp.rev _ _) (by omega) (by omega) c
theorem j4s (T:Tells k n cmp s) {p:Array Nat}{m:Nat} (hp:OkP n p) (hm:m+1≤n) (hd:Dsc k p (m+1)) {G:Nat × Array Nat→Shared→Prop}
  (h:∀ r p',OkP n p'→1≤r→r≤n→Asc k p' r→G (r,p') s):(kas_descPart m n p).kasWp cmp G s:=by
 unfold kas_descPart
 rw[KasT.kasWp_bind]
 refine jbb T _ p (m+1) 0 hp (by omega) (by omega) hd (j5s (by omega)) fun p' r q' a b c d e=>?_
 have hs:=a.size
 by_cases hq:q' > 0
 ·show (if q' > 0 then kas_tail3 r n (kas_rev p' (r-(q'+1)) r) else kas_tail3 r n p').kasWp cmp G s
  rw[if_pos hq]
  refine jcj T (a.rev _ _) (by omega) (by omega) (fun i j hij hj=>?_) h
  rw[j1z (by omega) e.2,j1z (by omega) e.2]
  exact d i j hij hj
 ·show (if q' > 0 then kas_tail3 r n (kas_rev p' (r-(q'+1)) r) else kas_tail3 r n p').kasWp cmp G s
  rw[if_neg hq]
  exact jcj T a (by omega) (by omega) d h
theorem jho (T:Tells k n cmp s) {p:Array Nat} (hp:OkP n p) (h0:1≤n) {G:Nat × Array Nat→Shared→Prop} (h:∀ r p',OkP n p'→1≤r→r≤n→Asc k p' r→G (r,p') s):(kas_count n p).kasWp cmp G s:=by
 have hsz:=hp.size
 unfold kas_count
 rw[KasT.kasWp_bind]
 refine jm2 T hp _ 1 (Nat.le_refl _) (by omega) (fun i j hij hj=>by rw[show i=j by omega];exact KeyOrd.kle_refl _) fun m a b c e=>?_
 by_cases hm:m=n
 ·rw[if_pos (by simpa using hm)]
  exact h m p hp a (by omega) c
 ·rw[if_neg (by simpa using hm)]
  have lt:O.klt (kAt k p m) (kAt k p (m-1)):=e.resolve_left (by omega)
  by_cases h2:m > 1
  ·rw[if_pos h2]
   show cmp (p.getD 0 0) (p.getD (m-1) 0) (fun b s'=>(if b=true then KasT.ret (m,p) else kas_descPart m n (kas_rev p 0 m)).kasWp cmp G s') s
   refine T.at hp (by omega) (by omega) ?_
   cases d:O.blt (kAt k p 0) (kAt k p (m-1)) with
   | true=>exact h m p hp a (by omega) c
   | false =>
    rw[if_neg (by decide)]
    have all:∀ i,0≤i→i < m→kAt k p i=kAt k p (m-1):=fun i _ hi=>KeyOrd.kle_antisymm (c i (m-1) (by omega) (by omega)) (KeyOrd.kle_trans d (c 0 i (by omega) hi))
    refine j4s T (hp.rev _ _) (by omega) (fun i j hij hj=>?_) h
    rw[j1z (by omega) all,j1z (by omega) all]
    by_cases hj2:j < m
    ·rw[all i (by omega) (by omega),all j (by omega) hj2];exact KeyOrd.kle_refl _
    ·obtain rfl:j=m:=by omega
     by_cases hi:i=j
     ·rw[hi];exact KeyOrd.kle_refl _
     ·rw[all i (by omega) (by omega)];exact KeyOrd.kle_of_klt lt
  ·rw[if_neg h2]
   obtain rfl:m=1:=by omega
   refine j4s T hp (by omega) (fun i j hij hj=>?_) h
   by_cases hi:i=j
   ·rw[hi];exact KeyOrd.kle_refl _
   ·obtain rfl:i=0:=by omega
    obtain rfl:j=1:=by omega
    exact KeyOrd.kle_of_klt lt
theorem j98 (T:Tells k n cmp s) {p:Array Nat} (hp:OkP n p) {a:Nat} (ha:a < n) (hs:Asc k p a) {G:Nat→Shared→Prop} (h:∀ l,l≤a→(∀ i,i < l→O.kle (kAt k p i) (kAt k p a))→(∀ i,l≤i→i < a→O.klt (kAt k p a) (kAt k p i))→G l s) :
  ∀ (f l r:Nat),l≤r→r≤a→r-l≤f→(∀ i,i < l→O.kle (kAt k p i) (kAt k p a))→(∀ i,r≤i→i < a→O.klt (kAt k p a) (kAt k p i))→(kas_place p a f l r).kasWp cmp G s
 | 0,l,r,hl,hr,hf,x,y=>h l (by omega) x (by rw[show l=r by omega];exact y)
 | f+1,l,r,hl,hr,hf,x,y=>by
  unfold kas_place
  by_cases hge:l≥r
  ·rw[if_pos hge]
   exact h l (by omega) x (by rw[show l=r by omega];exact y)
  ·rw[if_neg hge]
   show cmp (p.getD a 0) (p.getD ((l+r) / 2) 0) (fun b s'=>(if b=true then kas_place p a f l ((l+r) / 2) else kas_place p a f ((l+r) / 2+1) r).kasWp cmp G s') s
   refine T.at hp ha (by omega) ?_
   cases c:O.blt (kAt k p a) (kAt k p ((l+r) / 2)) with
   | true=>exact j98 T hp ha hs h f l ((l+r) / 2) (by omega) (by omega) (by omega) x fun i u v=>KeyOrd.klt_of_klt_of_kle c (hs _ _ u v)
   | false=>exact j98 T hp ha hs h f ((l+r) / 2+1) r (by omega) (by omega) (by omega) (fun i u=>KeyOrd.kle_trans (hs i ((l+r) / 2) (by omega) (by omega)) c) y
theorem t_bin (T:Tells k n cmp s) {G:Array Nat→Shared→Prop} (h:∀ p,OkP n p→Asc k p n→G p s):∀ (f:Nat) (p:Array Nat) (a:Nat),OkP n p→a+f=n→Asc k p a→(kas_bin f p a).kasWp cmp G s
 | 0,p,a,hp,ha,hs=>h p hp (by rw[← ha];exact hs)
 | f+1,p,a,hp,ha,hs=>by
  have hsz:=hp.size
  unfold kas_bin
  rw[KasT.kasWp_bind]
  refine j98 T hp (by omega) hs (fun l hl x y=>?_) a 0 a (Nat.zero_le _) (Nat.le_refl _) (by omega) (fun i hi=>by omega) fun i u v=>by omega
  refine t_bin T h f _ (a+1) (hp.bub _ _) (by omega) fun i j hij hj=>?_
  rw[jci (by omega) (by omega),jci (by omega) (by omega),show a-(a-l)=l by omega]
  repeat' split
  all_goals first | (exfalso;omega) | exact KeyOrd.kle_refl _ | exact x _ (by omega) | exact KeyOrd.kle_of_klt (y _ (by omega) (by omega)) | exact hs _ _ (by omega) (by omega)
theorem t_sort (T:Tells k n cmp s) (h0:1≤n) {G:Array Nat→Shared→Prop} (h:∀ p,OkP n p→Asc k p n→G p s):(kas_sort n).kasWp cmp G s:=by
 unfold kas_sort
 rw[KasT.kasWp_bind]
 refine jho T (List.Perm.refl _) h0 fun r p' a b c d=>?_
 show (if r < n then kas_bin (n-max r 1) p' (max r 1) else KasT.ret p').kasWp cmp G s
 rw[show max r 1=r by omega]
 by_cases hr:r < n
 ·rw[if_pos hr]
  exact t_bin T h _ p' r a (by omega) d
 ·rw[if_neg hr]
  obtain rfl:r=n:=by omega
  exact h p' a d
end
end L2
set_option Elab.async false
set_option linter.all false
set_option maxRecDepth 100000
set_option maxHeartbeats 4000000
namespace L2
open PySem PySem.Spec PyProof.Rows PySem.W
section
variable {prog:Program}{w:World}{A:Around}{E:Value→Shared→Prop}{s:Shared}{O:KeyOrd}{k:Nat→O.α}{a:Addr}{vs:List Value}
theorem j99 {κ:SortKind}{n:Nat}{P:PySem.Fin→Shared→Prop} (ho:s.heap.get? a=some (seqObj "list" vs.toArray n)) (h64:vs.length < 64)
  (hkk:2≤vs.length→∀ h',(∀ b o,b≠a→s.heap.get? b=some o→h'.get? b=some o)→∀ Q:SortKind→Shared→Prop,Q κ { s with heap:=h' }→wpAny (model prog w) A (keyKind' vs.toArray) Q E { s with heap:=h' })
  (hT:∀ h',(∀ b o,b≠a→s.heap.get? b=some o→h'.get? b=some o)→Tells k vs.length (kas_ask prog w A κ vs) { s with heap:=h' })
  (h:∀ p:Array Nat,OkP vs.length p→Asc k p vs.length→P (.done (.ret .none)) { s with heap:=sortedHeap s.heap a vs (p.toList.map fun i=>vs.getD i .none).toArray }) :
  wpAny (model prog w) A (Builtin.«list.sort» ⟨[Value.ref a],[]⟩) P E s:=by
 have la:a < s.heap.objs.size:=Heap.lt_size ho
 have zl:vs.length≤sizeLine:=by rw[sizeLine_eq];omega
 rw[list_sort_plain]
 refine wpAny_bind (listItems_at ho rfl (wpAny_bind (listUpdate_at ho rfl ?_ (by rw[List.size_toArray];omega) (Nat.zero_le _))))
 obtain⟨e1,g1⟩:∃ e1,(s.heap.update a (Obj.mapSeq fun _=>#[])).get? a=some (seqObj "list" #[] e1):=⟨_,get?_update_seq ho (fun _=>#[])⟩
 refine wpAny_bind (seqEpoch_at g1 rfl (wpAny_bind (wpAny_newTuple (wpAny_bind (wpAny_newList (wpAny_holding ?_) (Nat.zero_le _))) zl)))
 have g6:(((s.heap.update a (Obj.mapSeq fun _=>#[])).push (seqObj "tuple" vs.toArray 0)).push (seqObj "list" #[] 0)).get? a=some (seqObj "list" #[] e1):=Heap.get?_push_of_some _ (Heap.get?_push_of_some _ g1)
 have kp:∀ b o,b≠a→s.heap.get? b=some o→(((s.heap.update a (Obj.mapSeq fun _=>#[])).push (seqObj "tuple" vs.toArray 0)).push (seqObj "list" #[] 0)).get? b=some o :=
  fun b o q e=>Heap.get?_push_of_some _ (Heap.get?_push_of_some _ ((Heap.get?_update_other _ _ (Ne.symm q)).trans e))
 skip;show wpAny (model prog w) A _ P E { s with heap:=((s.heap.update a (Obj.mapSeq fun _=>#[])).push (seqObj "tuple" vs.toArray 0)).push (seqObj "list" #[] 0) }
 dsimp only
 have sz:vs.toArray.size=vs.length:=List.size_toArray ..
 by_cases h2:(vs.toArray.size < 2)
 ·rw[if_pos h2,if_pos h2]
  refine wpAny_bind (wpAny_pure ?_)
  rw[StateT.run_pure]
  refine wpAny_bind (wpAny_pure ?_)
  have es:((vs.toArray.zip vs.toArray).map fun x=>x.2)=((List.range vs.length).toArray.toList.map fun i=>vs.getD i .none).toArray:=by
   apply Array.ext'
   refine List.ext_getElem? fun i=>?_
   by_cases hi:i < vs.length
   ·simp[hi]
   ·simp[hi]
  have q:=h (List.range vs.length).toArray (List.Perm.refl _) fun i j hij hj=>by rw[show i=j by omega];exact KeyOrd.kle_refl _
  rw[← es] at q
  refine wpAny_bind (seqEpoch_at g6 rfl (wpAny_bind (listUpdate_at g6 rfl ?_ (by simp) (by show ((vs.toArray.zip vs.toArray).map fun x=>x.2).size≤_;rw[Array.size_map,Array.size_zip];omega))))
  skip;simp only[bne_self_eq_false,Bool.false_eq_true,if_false]
  exact wpAny_pure q
 ·rw[if_neg h2,if_neg h2]
  refine wpAny_bind (hkk (by omega) _ kp _ ?_)
  refine wpAny_bind (wpAny_mono (kat_run (ks:=vs) (vs:=vs) (Q:=fun st' s'=>s'={ s with heap:=((s.heap.update a (Obj.mapSeq fun _=>#[])).push (seqObj "tuple" vs.toArray 0)).push (seqObj "list" #[] 0) }∧∃ p:Array Nat,arrOf st'=p.map (kas_item (vs.toArray.zip vs.toArray))∧failedOf st'=none∧OkP vs.length p∧Asc k p vs.length)
   rfl (by omega) h64 (fun p st' s' _ a2 a3 a4=>⟨a4.1,p,a2,a3,a4.2⟩) (t_sort (G:=fun p s'=>s'=_∧OkP vs.length p∧Asc k p vs.length) (hT _ kp) (by omega) fun p x y=>⟨rfl,x,y⟩)) ?_ fun _ _ e=>e)
  rintro⟨⟨⟩,st'⟩ s' ⟨rfl,p,har,hf,ok,as⟩
  have es:=kat_snds rfl har
  dsimp only
  refine wpAny_bind (seqEpoch_at g6 rfl (wpAny_bind (listUpdate_at g6 rfl ?_ (by simp) (by show ((arrOf st').map fun x=>x.2).size≤_;rw[es,List.size_toArray,List.length_map,Array.length_toList,ok.size];omega))))
  rw[hf]
  skip;simp only[bne_self_eq_false,Bool.false_eq_true,if_false]
  have q:=h p ok as
  rw[← es] at q
  exact wpAny_pure q
end
def lexB:List Int→List Int→Bool→Bool
 | x :: xs,y :: ys,e=>if x=y then lexB xs ys e else decide (x < y)
 | _,_,e=>e
theorem jck:∀ xs ys:List Int,lexB xs ys (decide (xs.length < ys.length))=decide (xs < ys)
 | [],[]=>by decide
 | [],y :: ys=>by
  show decide (0 < ys.length+1)=_
  rw[decide_eq_true (by omega),decide_eq_true (List.nil_lt_cons y ys)]
 | x :: xs,[]=>by
  show decide (xs.length+1 < 0)=_
  rw[decide_eq_false (by omega),decide_eq_false (List.not_lt_nil _)]
 | x :: xs,y :: ys=>by
  show (if x=y then lexB xs ys (decide (xs.length+1 < ys.length+1)) else decide (x < y))=_
  have:=jck xs ys
  by_cases c:x=y
  ·subst c
   rw[if_pos rfl,decide_eq_decide.mpr (Nat.add_lt_add_iff_right),this]
   exact decide_eq_decide.mpr ⟨fun h=>List.cons_lt_cons_iff.mpr (.inr ⟨rfl,h⟩),fun h=>(List.cons_lt_cons_iff.mp h).elim (fun z=>absurd z (Int.lt_irrefl _)) fun z=>z.2⟩
  ·rw[if_neg c]
   exact decide_eq_decide.mpr ⟨fun h=>List.cons_lt_cons_iff.mpr (.inl h),fun h=>(List.cons_lt_cons_iff.mp h).elim id fun z=>absurd z.1 c⟩
@[reducible] def rowOrd:KeyOrd where
 α:=List Int
 blt a b:=decide (a < b)
 irrefl x:=by simpa using List.lt_irrefl x
 trans x y z h1 h2:=by simp only[decide_eq_true_eq] at *;exact List.lt_trans h1 h2
 negTrans a b c h:=by
  skip;simp only[decide_eq_true_eq] at *
  by_cases hab:a < b
  ·exact .inl hab
  ·skip;exact .inr (List.lt_of_le_of_lt (List.not_lt.mp hab) h)
 total x y h1 h2:=by simp only[decide_eq_false_iff_not] at *;exact List.le_antisymm (List.not_lt.mp h2) (List.not_lt.mp h1)
section
variable {prog:Program}{w:World}{A:Around}{E:Value→Shared→Prop}{s:Shared}
theorem jhp {b:Bool}{x y:Int}{t u:Tok}{Q:Bool→Shared→Prop} (h:Q (decide (x < y)) s):wpAny (model prog w) A (oneLt' b (.int x t) (.int y u)) Q E s:=by
 cases b with
 | true=>exact oneLt_int h
 | false=>exact kat_one _ _ (lt_int h)
theorem j9a {b fin:Bool}{Q:Bool→Shared→Prop}:∀ {xs ys:List Value}{L M:List Int}{i:Nat},IntsAre xs L→IntsAre ys M→Q (lexB L M fin) s→KatLex prog w A b fin Q (xs.zip ys) i s
 | [],_,_,_,i,.nil,_,h=>kat_nil h
 | _,_,_,_,i,.cons n t r,.nil,h=>kat_nil h
 | _,_,_,_,i,.cons n t r,.cons m u q,h=>by
  refine kat_cons (wpAny_eqBool_int ?_)
  unfold lexB at h
  by_cases c:n=m
  ·rw[if_pos c] at h
   subst c
   rw[show (n == n)=true from beq_self_eq_true n]
   exact kat_yes (j9a r q h)
  ·rw[if_neg c] at h
   rw[show (n == m)=false from beq_eq_false_iff_ne.mpr c]
   exact kat_no (jhp h)
def RowsAt (h:Heap):List Value→List (List Int)→Prop
 | [],[]=>True
 | v :: vs,L :: Ls=>(∃ a its,v=.ref a∧IsTup h a its∧IntsAre its.toList L∧L≠[])∧RowsAt h vs Ls
 | _,_=>False
theorem RowsAt.kept {h h':Heap}{x:Addr}{zs:Array Value}{n:Nat} (hx:h.get? x=some (seqObj "list" zs n)) (e:∀ b o,b≠x→h.get? b=some o→h'.get? b=some o):∀ {vs:List Value}{Ls:List (List Int)},RowsAt h vs Ls→RowsAt h' vs Ls
 | [],[],_=>trivial
 | [],_ :: _,r=>r.elim
 | _ :: _,[],r=>r.elim
 | v :: vs,L :: Ls,⟨⟨a,its,e1,e2,e3,e4⟩,r⟩=>by
  refine⟨⟨a,its,e1,tup_at e2 fun o q=>e a o (fun z=>?_) q,e3,e4⟩,RowsAt.kept hx e r⟩
  subst z
  obtain⟨o,ho,hc,_⟩:=e2
  rw[hx] at ho
  cases ho
  exact absurd (show Value.type "list"=Value.type "tuple" from hc) (by decide)
theorem RowsAt.get {h:Heap}:∀ {vs:List Value}{Ls:List (List Int)}{i:Nat},RowsAt h vs Ls→i < vs.length→∃ a its,vs.getD i .none=.ref a∧IsTup h a its∧IntsAre its.toList (Ls.getD i [])
 | [],[],i,_,hi=>by simp at hi
 | [],_ :: _,_,r,_=>r.elim
 | _ :: _,[],_,r,_=>r.elim
 | v :: vs,L :: Ls,0,⟨⟨a,its,e1,e2,e3,e4⟩,r⟩,_=>⟨a,its,e1,e2,e3⟩
 | v :: vs,L :: Ls,i+1,⟨_,r⟩,hi=>by
  obtain⟨a,its,e1,e2,e3⟩:=RowsAt.get (i:=i) r (by simpa using hi)
  exact⟨a,its,by simpa using e1,e2,by simpa using e3⟩
theorem RowsAt.firsts {h:Heap}:∀ {vs:List Value}{Ls:List (List Int)},RowsAt h vs Ls→∃ fs,KatTups h vs fs∧fs.length=vs.length∧∀ v∈fs,∃ n t,v=.int n t
 | [],[],_=>⟨[],KatTups.nil,rfl,by simp⟩
 | [],_ :: _,r=>r.elim
 | _ :: _,[],r=>r.elim
 | v :: vs,L :: Ls,⟨⟨a,its,e1,e2,e3,e4⟩,r⟩=>by
  obtain⟨fs,k1,k2,k3⟩:=RowsAt.firsts r
  obtain⟨o,ho,hc,n,hd⟩:=e2
  cases e3':its.toList with
  | nil =>
   rw[e3'] at e3
   cases e3
   exact absurd rfl e4
  | cons x xs =>
   rw[e3'] at e3
   cases e3 with
   | cons m t q =>
    subst e1
    refine⟨.int m t :: fs,KatTups.cons ho hc hd (by rw[← Array.getElem?_toList,e3'];rfl) k1,by rw[List.length_cons,List.length_cons,k2],fun v hv=>?_⟩
    skip;rcases List.mem_cons.mp hv with rfl | hv
    ·exact⟨m,t,rfl⟩
    ·exact k3 v hv
theorem jbc {vs:List Value}{Ls:List (List Int)}{b:Bool} (h:RowsAt s.heap vs Ls):Tells (O:=rowOrd) (fun i=>Ls.getD i []) vs.length (kas_ask prog w A (tuples' b) vs) s:=by
 intro i j hi hj C c
 obtain⟨x,xs,ex,tx,ix⟩:=h.get hi
 obtain⟨y,ys,ey,ty,iy⟩:=h.get hj
 obtain⟨ox,gx,_,nx,dx⟩:=tx
 obtain⟨oy,gy,_,ny,dy⟩:=ty
 unfold kas_ask
 rw[ex,ey]
 refine kat_lt gx dx gy dy (j9a ix iy ?_)
 have lx:=ix.length
 have ly:=iy.length
 rw[Array.length_toList] at lx ly
 rw[lx,ly,jck]
 exact c
theorem jbd {a:Addr}{vs:List Value}{n:Nat}{Ls:List (List Int)}{P:PySem.Fin→Shared→Prop} (ho:s.heap.get? a=some (seqObj "list" vs.toArray n)) (h64:vs.length < 64) (hR:RowsAt s.heap vs Ls)
  (h:∀ p:Array Nat,OkP vs.length p→Asc (O:=rowOrd) (fun i=>Ls.getD i []) p vs.length→P (.done (.ret .none)) { s with heap:=sortedHeap s.heap a vs (p.toList.map fun i=>vs.getD i .none).toArray }) :
  wpAny (model prog w) A (Builtin.«list.sort» ⟨[Value.ref a],[]⟩) P E s:=by
 refine j99 (κ:=tuples' true) (O:=rowOrd) (k:=fun i=>Ls.getD i []) ho h64 (fun h2 h' e Q q=>?_) (fun h' e=>jbc (s:={ s with heap:=h' }) (hR.kept ho e)) h
 obtain⟨fs,k1,k2,k3⟩:=RowsAt.firsts (hR.kept ho e)
 exact kat_kind (s:={ s with heap:=h' }) (T:=.type "int") k1 (by omega) (fun v hv=>by obtain⟨m,t,rfl⟩:=k3 v hv;exact .now) rfl q
end
def Ris (xs:Array Nat):Prop:=xs.toList.Pairwise (· < ·)
structure Low (xs:Array Nat) (j r:Nat):Prop where
 le:r≤xs.size
 lo:∀ i,i < r→xs.getD i 0 < j
 hi:∀ i,r≤i→i < xs.size→j≤xs.getD i 0
theorem j1p {xs:Array Nat}{i d:Nat} (h:i < xs.size):xs.getD i d=xs[i]:=by simp[Array.getD,h]
theorem Ris.lt {xs:Array Nat} (h:Ris xs) {i k:Nat} (a:i < k) (b:k < xs.size):xs.getD i 0 < xs.getD k 0:=by
 rw[j1p (by omega),j1p b]
 have:=List.pairwise_iff_getElem.mp h i k (by rw[Array.length_toList];omega) (by rw[Array.length_toList];exact b) a
 simpa using this
theorem Low.uniq {xs:Array Nat}{j r r':Nat} (a:Low xs j r) (b:Low xs j r'):r=r':=by
 rcases Nat.lt_trichotomy r r' with h | h | h
 ·have x:=a.hi r (Nat.le_refl _) (by have:=b.le;omega)
  have y:=b.lo r h
  omega
 ·exact h
 ·have x:=b.hi r' (Nat.le_refl _) (by have:=a.le;omega)
  have y:=a.lo r' h
  omega
theorem jef {xs:Array Nat}{j:Nat} (hr:Ris xs):∀ (fuel lo hi:Nat),lo≤hi→hi≤xs.size→hi-lo≤fuel→(∀ i,i < lo→xs.getD i 0 < j)→(∀ i,hi≤i→i < xs.size→j≤xs.getD i 0)→Low xs j (SetTable.below.go xs j fuel lo hi)
 | 0,lo,hi,a,b,c,d,e=>⟨by show lo≤_;omega,d,by show ∀ i,lo≤i→_;rw[show lo=hi by omega];exact e⟩
 | fuel+1,lo,hi,a,b,c,d,e=>by
  unfold SetTable.below.go
  by_cases h:lo < hi
  ·rw[if_pos h]
   have hm:(lo+hi) / 2 < xs.size:=by omega
   dsimp only
   rw[j1p hm]
   have em:xs.getD ((lo+hi) / 2) 0=xs[(lo+hi) / 2]:=j1p hm
   by_cases q:xs[(lo+hi) / 2] < j
   ·rw[if_pos q]
    refine jef hr fuel _ hi (by omega) b (by omega) (fun i hi'=>?_) e
    by_cases z:i=(lo+hi) / 2
    ·rw[z,em];exact q
    ·have:=hr.lt (show i < (lo+hi) / 2 by omega) hm;omega
   ·rw[if_neg q]
    refine jef hr fuel lo _ (by omega) (by omega) (by omega) d fun i x y=>?_
    by_cases z:i=(lo+hi) / 2
    ·rw[z,em];omega
    ·have:=hr.lt (show (lo+hi) / 2 < i by omega) y;omega
  ·rw[if_neg h]
   exact⟨by omega,d,by rw[show lo=hi by omega];exact e⟩
theorem j2n {xs:Array Nat} (hr:Ris xs) (j:Nat):Low xs j (SetTable.below xs j):=jef hr xs.size 0 xs.size (Nat.zero_le _) (Nat.le_refl _) (by omega) (fun i h=>by omega) fun i a b=>by omega
theorem j41 {xs:Array Nat} (hr:Ris xs) (j:Nat):xs[SetTable.below xs j]?=some j↔j∈xs.toList:=by
 have L:=j2n hr j
 constructor
 ·intro h
  exact List.mem_of_getElem? (by rw[Array.getElem?_toList];exact h)
 ·intro h
  obtain⟨i,hi,e⟩:=List.getElem_of_mem h
  rw[Array.length_toList] at hi
  have e':xs.getD i 0=j:=by rw[j1p hi];simpa using e
  have:SetTable.below xs j=i:=by
   refine L.uniq ⟨by omega,fun k hk=>?_,fun k a b=>?_⟩
   ·have:=hr.lt hk hi;omega
   ·by_cases z:k=i
    ·rw[z];omega
    ·have:=hr.lt (show i < k by omega) b;omega
  rw[this,Array.getElem?_eq_getElem hi]
  simpa using e
theorem j1h {α:Type} (xs:Array α) (p:Nat) (x:α):(SetTable.insertAt xs p x).toList=xs.toList.take p++x :: xs.toList.drop p:=by
 unfold SetTable.insertAt
 simp
 skip;exact List.take_of_length_le (by simp)
theorem jeg {xs:Array Nat}{j p:Nat} (L:Low xs j p):∀ y∈xs.toList.take p,y < j:=by
 intro y hy
 obtain⟨i,hi,e⟩:=List.getElem_of_mem hy
 rw[List.length_take] at hi
 have:=L.lo i (by omega)
 rw[j1p (by rw[Array.length_toList] at hi;omega)] at this
 rw[← e]
 simpa using this
theorem jeh {xs:Array Nat}{j p:Nat} (L:Low xs j p):∀ y∈xs.toList.drop p,j≤y:=by
 intro y hy
 obtain⟨i,hi,e⟩:=List.getElem_of_mem hy
 rw[List.length_drop,Array.length_toList] at hi
 have:=L.hi (p+i) (by omega) (by omega)
 rw[j1p (by omega)] at this
 rw[← e]
 simpa using this
theorem j9b {xs:Array Nat}{j p:Nat} (h:Ris xs) (L:Low xs j p) (hn:j∉xs.toList):Ris (SetTable.insertAt xs p j):=by
 unfold Ris at h ⊢
 rw[j1h]
 have hp:=h
 rw[← List.take_append_drop p xs.toList] at hp
 obtain⟨h1,h2,h3⟩:=List.pairwise_append.mp hp
 have gt:∀ y∈xs.toList.drop p,j < y:=fun y hy=>by
  have:=jeh L y hy
  have:j≠y:=fun e=>hn (by rw[e];exact List.mem_of_mem_drop hy)
  omega
 refine List.pairwise_append.mpr ⟨h1,List.pairwise_cons.mpr ⟨gt,h2⟩,fun x hx y hy=>?_⟩
 skip;rcases List.mem_cons.mp hy with rfl | hy
 ·exact jeg L x hx
 ·exact h3 x hx y hy
theorem j9c {t:SetTable} (hd:t.dummies=#[]) (hr:Ris t.place) (j:Nat):t.slot j=if j∈t.place.toList then .live (SetTable.below t.place j) else .empty:=by
 unfold SetTable.slot
 dsimp only
 rw[hd]
 by_cases h:j∈t.place.toList
 ·rw[if_pos h,(j41 hr j).mpr h,if_pos (by simp)]
 ·rw[if_neg h,if_neg (by rw[beq_iff_eq,j41 hr];exact h),if_neg (by unfold SetTable.has;simp)]
theorem j9d {t:SetTable}{n:Nat} (hf:t.fits n=true) (hp:t.plain=true) (hr:Ris t.place) (hn:t.place.size=n):Rise t n fun i=>if i=0 then 0 else t.place.getD (i-1) 0+1:=by
 refine⟨hf,hp,rfl,fun i hi=>?_,fun i hi=>⟨t.place[i],Array.getElem?_eq_getElem (by omega),?_⟩⟩
 ·refine (j2n hr _).uniq ⟨by omega,fun k hk=>?_,fun k a b=>?_⟩
  ·rw[if_neg (by omega)]
   by_cases z:k=i-1
   ·rw[z];omega
   ·have:=hr.lt (show k < i-1 by omega) (by omega);omega
  ·by_cases z:i=0
   ·rw[if_pos z];omega
   ·rw[if_neg z]
    have:=hr.lt (show i-1 < k by omega) b
    omega
 ·rw[if_neg (by omega),Nat.add_sub_cancel,j1p (by omega)]
def adv (m:Nat) (p:SetTable.Probe):SetTable.Probe :=
 if p.more > 0 then { p with more:=p.more-1,j:=p.j+1 } else
 { p with j:=(SetTable.leap m p.i p.perturb).1,more:=SetTable.runEnd m (SetTable.leap m p.i p.perturb).1-(SetTable.leap m p.i p.perturb).1,i:=(SetTable.leap m p.i p.perturb).1,perturb:=(SetTable.leap m p.i p.perturb).2 }
def st0 (m:Nat) (h:Int):SetTable.Probe:={ j:=SetTable.bits h % (m+1),more:=SetTable.runEnd m (SetTable.bits h % (m+1))-SetTable.bits h % (m+1),i:=SetTable.bits h % (m+1),perturb:=SetTable.bits h,dummy:=none }
def pth (m:Nat) (h:Int):Nat→SetTable.Probe
 | 0=>st0 m h
 | n+1=>adv m (pth m h n)
theorem j6w (m:Nat) (h:Int):∀ n,(pth m h n).dummy=none
 | 0=>rfl
 | n+1=>by
  show (adv m (pth m h n)).dummy=none
  unfold adv
  split <;> exact j6w m h n
theorem j6x {m:Nat}{h:Int}{n:Nat}{p:SetTable.Probe} (e:pth m h n=p):∀ c,c≤p.more→pth m h (n+c)={ p with j:=p.j+c,more:=p.more-c }
 | 0,_=>e
 | c+1,hc=>by
  show adv m (pth m h (n+c))=_
  rw[j6x e c (by omega)]
  unfold adv
  rw[if_pos (show p.more-c > 0 by omega)]
  congr 1 <;> omega
def lp (m:Nat) (h:Int):Nat→Nat × Nat
 | 0=>(SetTable.bits h % (m+1),SetTable.bits h)
 | L+1=>SetTable.leap m (lp m h L).1 (lp m h L).2
theorem run_le (m i:Nat):SetTable.runEnd m i-i≤9:=by unfold SetTable.runEnd;split <;> omega
theorem jhq (m:Nat) (h:Int):∀ L,∃ n,n≤10 * L∧pth m h n={ j:=(lp m h L).1,more:=SetTable.runEnd m (lp m h L).1-(lp m h L).1,i:=(lp m h L).1,perturb:=(lp m h L).2,dummy:=none }
 | 0=>⟨0,Nat.le_refl _,rfl⟩
 | L+1=>by
  obtain⟨n,hn,e⟩:=jhq m h L
  have r:=run_le m (lp m h L).1
  refine⟨n+(SetTable.runEnd m (lp m h L).1-(lp m h L).1)+1,by omega,?_⟩
  show adv m (pth m h (n+_))=_
  rw[j6x e _ (Nat.le_refl _)]
  unfold adv
  rw[if_neg (by simp)]
  rfl
theorem jcl (m:Nat) (h:Int):∀ L,(lp m h L).2=SetTable.bits h / 32 ^ L
 | 0=>by show SetTable.bits h=_;simp
 | L+1=>by
  show (lp m h L).2 / 32=_
  rw[jcl m h L,Nat.div_div_eq_div_mul,Nat.pow_succ]
theorem jhr (h:Int):SetTable.bits h < 2 ^ 64:=by unfold SetTable.bits;omega
theorem jhs (m:Nat) (h:Int) (L:Nat) (hL:13≤L):(lp m h L).2=0:=by
 rw[jcl]
 refine Nat.div_eq_of_lt (Nat.lt_of_lt_of_le (jhr h) ?_)
 exact Nat.le_trans (by decide) (Nat.pow_le_pow_right (by decide) hL)
def cyc (m:Nat):Nat→Nat→Nat
 | 0,x=>x
 | d+1,x=>(cyc m d x * 5+1) % (m+1)
theorem jei (m:Nat) (h:Int):∀ d,(lp m h (13+d)).1=cyc m d (lp m h 13).1
 | 0=>rfl
 | d+1=>by
  show ((lp m h (13+d)).1 * 5+1+(lp m h (13+d)).2 / 32) % (m+1)=_
  rw[jhs m h _ (by omega),jei m h d]
  rfl
theorem cyc7:∀ x,x < 8→∀ e,e < 8→∃ d,d < 8∧cyc 7 d x=e:=by decide +kernel
theorem cyc31:∀ x,x < 32→∀ e,e < 32→∃ d,d < 32∧cyc 31 d x=e:=by decide +kernel
theorem j6y (m:Nat):∀ (a b x:Nat),cyc m (a+b) x=cyc m a (cyc m b x)
 | 0,b,x=>by rw[Nat.zero_add];rfl
 | a+1,b,x=>by
  rw[show a+1+b=(a+b)+1 by omega]
  show (cyc m (a+b) x * 5+1) % (m+1)=_
  rw[j6y m a b x]
  rfl
theorem cyc00:∀ e,e < 128→∃ d,d < 128∧cyc 127 d 0=e:=by decide +kernel
theorem cyc127:∀ x,x < 128→∀ e,e < 128→∃ d,d < 128∧cyc 127 d x=e:=fun x hx e he=>by
 obtain⟨p,hp,rfl⟩:=cyc00 x hx
 obtain⟨q,hq,rfl⟩:=cyc00 e he
 by_cases h:p≤q
 ·exact⟨q-p,by omega,by rw[← j6y,Nat.sub_add_cancel h]⟩
 ·refine⟨q+128-p,by omega,?_⟩
  rw[← j6y,show q+128-p+p=q+128 by omega,j6y,show cyc 127 128 0=0 by decide +kernel]
def Msk (m:Nat):Prop:=m=7∨m=31∨m=127
theorem jcm {m:Nat} (hm:Msk m) {x e:Nat} (hx:x < m+1) (he:e≤m):∃ d,d < m+1∧cyc m d x=e:=by
 rcases hm with rfl | rfl | rfl
 ·exact cyc7 _ hx _ (by omega)
 ·exact cyc31 _ hx _ (by omega)
 ·exact cyc127 _ hx _ (by omega)
theorem lp_lt (m:Nat) (h:Int):∀ L,(lp m h L).1 < m+1
 | 0=>Nat.mod_lt _ (Nat.succ_pos _)
 | L+1=>Nat.mod_lt _ (Nat.succ_pos _)
theorem meets {m:Nat} (hm:Msk m) (h:Int) {e:Nat} (he:e≤m):∃ n,n < 10 * (m+14)∧(pth m h n).j=e:=by
 have l:=lp_lt m h 13
 obtain⟨d,hd,hc⟩:=jcm hm l he
 obtain⟨n,hn,q⟩:=jhq m h (13+d)
 exact⟨n,by omega,by rw[q];show (lp m h (13+d)).1=e;rw[jei,hc]⟩
structure Tab (t:SetTable) (es:Array (Int × Value)):Prop where
 mask:Msk t.mask
 dum:t.dummies=#[]
 ris:Ris t.place
 size:t.place.size=es.size
 room:es.size * 5 < t.mask * 3
 top:∀ j∈t.place.toList,j≤t.mask
 way:∀ (i:Nat) (hi:i < es.size),∃ N,(pth t.mask es[i].1 N).j=t.place.getD i 0∧∀ m,m < N→(pth t.mask es[i].1 m).j∈t.place.toList
theorem Tab.fits {t:SetTable}{es:Array (Int × Value)} (T:Tab t es):t.fits es.size=true:=by
 unfold SetTable.fits SetTable.fill
 rw[T.dum,T.size]
 have:=T.room
 simp
 omega
theorem Tab.gave {t:SetTable}{es:Array (Int × Value)} (T:Tab t es):t.gaveWay=false:=by
 unfold SetTable.gaveWay
 rcases T.mask with h | h | h <;> rw[h] <;> rfl
theorem j9e:∀ (n:Nat) (l:List Nat),(∀ e,e < n→e∈l)→n≤l.length
 | 0,l,_=>Nat.zero_le _
 | n+1,l,h=>by
  have hn:=h n (Nat.lt_succ_self _)
  have:=j9e n (l.erase n) fun e he=>(List.mem_erase_of_ne (by omega)).mpr (h e (by omega))
  rw[List.length_erase_of_mem hn] at this
  have:=List.length_pos_of_mem hn
  omega
theorem Tab.free {t:SetTable}{es:Array (Int × Value)} (T:Tab t es):∃ e,e≤t.mask∧e∉t.place.toList:=by
 refine Classical.byContradiction fun h=>?_
 have all:∀ e,e≤t.mask→e∈t.place.toList:=fun e he=>Classical.byContradiction fun q=>h ⟨e,he,q⟩
 have:=j9e (t.mask+1) t.place.toList fun e he=>all e (by omega)
 rw[Array.length_toList,T.size] at this
 have:=T.room
 omega
theorem jcn {m i:Nat} (h:i≤m):i+(SetTable.runEnd m i-i)≤m:=by unfold SetTable.runEnd;split <;> omega
theorem j4t (m:Nat) (h:Int):∀ n,(pth m h n).j+(pth m h n).more≤m
 | 0=>jcn (Nat.le_of_lt_succ (Nat.mod_lt _ (Nat.succ_pos _)))
 | n+1=>by
  have ih:=j4t m h n
  show (adv m (pth m h n)).j+(adv m (pth m h n)).more≤m
  unfold adv
  split
  ·dsimp only;omega
  ·exact jcn (Nat.le_of_lt_succ (Nat.mod_lt _ (Nat.succ_pos _)))
theorem j9f {t:SetTable} (hd:t.dummies=#[]) (hr:Ris t.place) (f:Nat→Int) (h:Int):∀ (fuel m:Nat),(∃ N,m≤N∧N < m+fuel∧(pth t.mask h N).j∉t.place.toList) →
  ∃ r,m≤r∧(∀ q,m≤q→q < r→(pth t.mask h q).j∈t.place.toList∧f (SetTable.below t.place (pth t.mask h q).j)≠h) ∧
   (((pth t.mask h r).j∉t.place.toList∧SetTable.probe.go t f h fuel (pth t.mask h m)=some (.empty (pth t.mask h r).j none)) ∨
     ((pth t.mask h r).j∈t.place.toList∧f (SetTable.below t.place (pth t.mask h r).j)=h∧SetTable.probe.go t f h fuel (pth t.mask h m)=some (.candidate (pth t.mask h r).j (SetTable.below t.place (pth t.mask h r).j) (pth t.mask h (r+1)))))
 | 0,m,⟨N,a,b,_⟩=>by omega
 | fuel+1,m,⟨N,a,b,c⟩=>by
  unfold SetTable.probe.go
  rw[j9c hd hr]
  by_cases hm:(pth t.mask h m).j∈t.place.toList
  ·rw[if_pos hm]
   dsimp only
   by_cases hf:f (SetTable.below t.place (pth t.mask h m).j)=h
   ·refine⟨m,Nat.le_refl _,fun q x y=>by omega,.inr ⟨hm,hf,?_⟩⟩
    rw[if_pos (by rw[hf];simp)]
    rfl
   ·rw[if_neg (by simpa using hf)]
    have hne:m≠N:=fun z=>c (by rw[← z];exact hm)
    obtain⟨r,r1,r2,r3⟩:=j9f hd hr f h fuel (m+1) ⟨N,by omega,by omega,c⟩
    refine⟨r,by omega,fun q x y=>?_,r3⟩
    by_cases z:q=m
    ·rw[z];exact⟨hm,hf⟩
    ·exact r2 q (by omega) y
  ·rw[if_neg hm]
   refine⟨m,Nat.le_refl _,fun q x y=>by omega,.inl ⟨hm,?_⟩⟩
   dsimp only
   rw[j6w]
section
variable {prog:Program}{w:World}{A:Around}{E:Value→Shared→Prop}{s:Shared}
structure Asks (prog:Program) (w:World) (A:Around) (E:Value→Shared→Prop) (s:Shared) (es:Array (Int × Value)) (x:Value) (hash:Int) {K:Type} [DecidableEq K] (key:Nat→K) (k:K):Prop where
 hsh:∀ (i:Nat) (hi:i < es.size),key i=k→es[i].1=hash
 eq:∀ (i:Nat) (hi:i < es.size) (Q:Bool→Shared→Prop),Q (decide (key i=k)) s→wpAny (model prog w) A (eqBool es[i].2 x) Q E s
 ref:∀ (i:Nat) (hi:i < es.size),∃ a,es[i].2=.ref a
 seen:∀ (l:List Value),(∀ y∈l,∃ (i:Nat) (hi:i < es.size),y=es[i].2)→∀ Q:Bool→Shared→Prop,Q false s→wpAny (model prog w) A (searchCouldBeSeen x l) Q E s
theorem j42 {S:Addr}{es:Array (Int × Value)}{ep:Nat}{t:SetTable}{x:Value}{hash:Int}{K:Type} [DecidableEq K] {key:Nat→K}{k:K}{Q:SetFound→Shared→Prop} (hS:s.heap.get? S=some (stObj es ep t)) (T:Tab t es) (H:Asks prog w A E s es x hash key k)
  (h1:(∃ i,i < es.size∧key i=k)→Q (.there none) s)
  (h2:(∀ i,i < es.size→key i≠k)→∀ r,(pth t.mask hash r).j∉t.place.toList→(pth t.mask hash r).j≤t.mask→(∀ q,q < r→(pth t.mask hash q).j∈t.place.toList)→Q (.free (pth t.mask hash r).j false) s) :
  ∀ (fuel m:Nat),(∃ N,m≤N∧N < 10 * (t.mask+14)∧N < m+fuel∧(pth t.mask hash N).j∉t.place.toList) →
   (∀ q,q < m→(pth t.mask hash q).j∈t.place.toList∧key (SetTable.below t.place (pth t.mask hash q).j)≠k) →
   ∀ stand,(stand=some (pth t.mask hash m)∨(m=0∧stand=none))→wpAny (model prog w) A (setSearchFrom S x hash true fuel stand) Q E s
 | 0,m,⟨N,a,b,c,d⟩,_,_,_=>by omega
 | fuel+1,m,⟨N,a,b,c,d⟩,hb,stand,hst=>by
  have hmem:=fun j=>j41 T.ris j
  unfold setSearchFrom
  refine wpAny_bind (wpAny_setState_of hS rfl T.fits ?_)
  dsimp only
  rw[T.gave,if_neg (by decide)]
  have est:stand.getD (t.probeStart hash)=pth t.mask hash m:=by
   rcases hst with e | ⟨rfl,e⟩ <;> rw[e] <;> rfl
  rw[est]
  have hfu:10 * SetTable.turns t.mask=10 * (t.mask+15):=rfl
  obtain⟨r,r1,r2,r3⟩:=j9f T.dum T.ris (fun i=>(es[i]?.map (·.1)).getD 0) hash (10 * SetTable.turns t.mask) m ⟨N,a,by rw[hfu];omega,d⟩
  have at_:∀ j,j∈t.place.toList→∃ hi:SetTable.below t.place j < es.size,t.place.getD (SetTable.below t.place j) 0=j:=fun j hj=>by
   have e:=(hmem j).mpr hj
   obtain⟨hi,e'⟩:=Array.getElem?_eq_some_iff.mp e
   exact⟨by rw[← T.size];exact hi,by rw[j1p hi];exact e'⟩
  have all:∀ q,q < r→(pth t.mask hash q).j∈t.place.toList∧key (SetTable.below t.place (pth t.mask hash q).j)≠k:=fun q hq=>by
   by_cases z:q < m
   ·exact hb q z
   ·obtain⟨x1,x2⟩:=r2 q (by omega) hq
    obtain⟨hi,_⟩:=at_ _ x1
    refine⟨x1,fun z=>x2 ?_⟩
    show (es[SetTable.below t.place (pth t.mask hash q).j]?.map (·.1)).getD 0=hash
    rw[Array.getElem?_eq_getElem hi]
    exact H.hsh _ hi z
  rcases r3 with⟨n1,n2⟩ | ⟨n1,n2,n3⟩
  ·have pe:∀ g:Nat→Int,(∀ i,g i=(es[i]?.map (·.1)).getD 0)→t.probe g hash (pth t.mask hash m)=some (.empty (pth t.mask hash r).j none):=fun g hg=>by rw[show g=_ from funext hg];exact n2
   rw[pe]
   rotate_left
   ·exact fun _=>rfl
   dsimp only
   refine wpAny_pure (h2 (fun i hi e=>?_) r n1 ?_ fun q hq=>(all q hq).1)
   ·obtain⟨N',w1,w2⟩:=T.way i hi
    rw[H.hsh i hi e] at w1 w2
    have hin:t.place.getD i 0∈t.place.toList:=by
     rw[j1p (by rw[T.size];exact hi)]
     simp
    have:N' < r:=by
     rcases Nat.lt_trichotomy N' r with z | z | z
     ·exact z
     ·exact absurd (by rw[← z,w1];exact hin) n1
     ·exact absurd (w2 r z) n1
    obtain⟨y1,y2⟩:=all N' this
    rw[w1] at y1 y2
    refine y2 ?_
    have:SetTable.below t.place (t.place.getD i 0)=i:=by
     refine (j2n T.ris _).uniq ⟨by rw[T.size];omega,fun k hk=>T.ris.lt hk (by rw[T.size];exact hi),fun k a b=>?_⟩
     by_cases z:k=i
     ·rw[z];exact Nat.le_refl _
     ·exact Nat.le_of_lt (T.ris.lt (by omega) b)
    rw[this]
    exact e
   ·have:=j4t t.mask hash r;omega
  ·have pe:∀ g:Nat→Int,(∀ i,g i=(es[i]?.map (·.1)).getD 0)→t.probe g hash (pth t.mask hash m)=some (.candidate (pth t.mask hash r).j (SetTable.below t.place (pth t.mask hash r).j) (pth t.mask hash (r+1))):=fun g hg=>by rw[show g=_ from funext hg];exact n3
   rw[pe]
   rotate_left
   ·exact fun _=>rfl
   dsimp only
   obtain⟨hi,ei⟩:=at_ _ n1
   obtain⟨ya,hya⟩:=H.ref _ hi
   have sm:t.sameMemory t.moves t.mask=some true:=by unfold SetTable.sameMemory;rw[if_pos (by simp)]
   have hrN2:r < N:=by
    rcases Nat.lt_trichotomy r N with z | z | z
    ·exact z
    ·exact absurd (by rw[← z];exact n1) d
    ·exact absurd (all N z).1 d
   by_cases hl:t.led=true
   ·rw[hl,if_neg (by decide)]
    rw[Array.getElem?_eq_getElem hi]
    dsimp only
    refine wpAny_bind (wpAny_holding (H.eq _ hi _ ?_))
    refine wpAny_bind (wpAny_setState_of hS rfl T.fits ?_)
    by_cases e:key (SetTable.below t.place (pth t.mask hash r).j)=k
    ·rw[decide_eq_true e]
     exact wpAny_pure (h1 ⟨_,hi,e⟩)
    ·rw[decide_eq_false e]
     dsimp only
     rw[if_neg (by decide),sm]
     dsimp only
     rw[if_pos rfl,j9c T.dum T.ris,if_pos n1]
     dsimp only
     rw[Array.getElem?_eq_getElem hi]
     dsimp only
     rw[hya]
     refine wpAny_bind (wpAny_isSame_ref_self (wpAny_bind (wpAny_pure ?_)))
     rw[if_pos rfl]
     dsimp only
     rw[if_neg (by decide)]
     refine j42 hS T H h1 h2 fuel (r+1) ⟨N,by omega,b,by omega,d⟩ (fun q hq=>?_) _ (.inl rfl)
     by_cases z:q=r
     ·rw[z];exact⟨n1,e⟩
     ·exact all q (by omega)
   ·rw[Bool.not_eq_true] at hl
    rw[hl,if_pos (by decide)]
    refine wpAny_bind (H.seen _ (fun y hy=>?_) _ ?_)
    ·obtain⟨p,hp,rfl⟩:=List.mem_map.mp hy
     rw[Array.toList_filter] at hp
     obtain⟨i,hi,e⟩:=List.getElem_of_mem (List.mem_filter.mp hp).1
     rw[Array.length_toList] at hi
     exact⟨i,hi,by rw[← e];simp⟩
    rw[if_neg (by decide)]
    rw[Array.getElem?_eq_getElem hi]
    dsimp only
    refine wpAny_bind (wpAny_holding (H.eq _ hi _ ?_))
    refine wpAny_bind (wpAny_setState_of hS rfl T.fits ?_)
    by_cases e:key (SetTable.below t.place (pth t.mask hash r).j)=k
    ·rw[decide_eq_true e]
     exact wpAny_pure (h1 ⟨_,hi,e⟩)
    ·rw[decide_eq_false e]
     dsimp only
     rw[if_neg (by decide),sm]
     dsimp only
     rw[if_pos rfl,j9c T.dum T.ris,if_pos n1]
     dsimp only
     rw[Array.getElem?_eq_getElem hi]
     dsimp only
     rw[hya]
     refine wpAny_bind (wpAny_isSame_ref_self (wpAny_bind (wpAny_pure ?_)))
     rw[if_pos rfl]
     dsimp only
     rw[if_neg (by decide)]
     refine j42 hS T H h1 h2 fuel (r+1) ⟨N,by omega,b,by omega,d⟩ (fun q hq=>?_) _ (.inl rfl)
     by_cases z:q=r
     ·rw[z];exact⟨n1,e⟩
     ·exact all q (by omega)
end
abbrev OwnA:=Array (Option Nat)
theorem j6z {m:Nat}{h:Int}{ow:OwnA}:∀ (fuel L n:Nat),pth m h n={ j:=(lp m h L).1,more:=SetTable.runEnd m (lp m h L).1-(lp m h L).1,i:=(lp m h L).1,perturb:=(lp m h L).2,dummy:=none } →
  (∃ L',L≤L'∧L' < L+fuel∧(ow.getD (lp m h L').1 (some 0)).isNone=true)→(∀ q,q < n→(ow.getD (pth m h q).j (some 0)).isNone=false) →
  ∃ N,SetTable.layClean.free m ow fuel (lp m h L).1 (lp m h L).2=some (pth m h N).j∧(ow.getD (pth m h N).j (some 0)).isNone=true∧∀ q,q < N→(ow.getD (pth m h q).j (some 0)).isNone=false
 | 0,L,n,_,⟨L',a,b,_⟩,_=>by omega
 | fuel+1,L,n,hn,⟨L',a,b,c⟩,hq=>by
  unfold SetTable.layClean.free
  have hrun:SetTable.runEnd m (lp m h L).1+1-(lp m h L).1=(SetTable.runEnd m (lp m h L).1-(lp m h L).1)+1:=by
   have:(lp m h L).1≤SetTable.runEnd m (lp m h L).1:=by unfold SetTable.runEnd;split <;> omega
   omega
  have pj:∀ k,k≤SetTable.runEnd m (lp m h L).1-(lp m h L).1→(pth m h (n+k)).j=(lp m h L).1+k:=fun k hk=>by rw[j6x hn k hk]
  cases hf:(List.range (SetTable.runEnd m (lp m h L).1+1-(lp m h L).1)).find? fun k=>(ow.getD ((lp m h L).1+k) (some 0)).isNone with
  | some k =>
   obtain⟨f1,as,bs,f2,f3⟩:=List.find?_eq_some_iff_append.mp hf
   have hk:k < SetTable.runEnd m (lp m h L).1+1-(lp m h L).1:=List.mem_range.mp (by rw[f2];simp)
   refine⟨n+k,by rw[pj k (by omega)],by rw[pj k (by omega)];exact f1,fun q hq'=>?_⟩
   by_cases z:q < n
   ·exact hq q z
   ·obtain⟨c',rfl⟩:∃ c',q=n+c':=⟨q-n,by omega⟩
    rw[pj c' (by omega)]
    have hc':c'∈as:=by
     have hlen:as.length=k:=by
      have e:=congrArg (fun l=>l[as.length]?) f2
      simp at e
      have:=(List.getElem?_range (n:=SetTable.runEnd m (lp m h L).1+1-(lp m h L).1) (i:=as.length))
      by_cases w:as.length < SetTable.runEnd m (lp m h L).1+1-(lp m h L).1
      ·rw[List.getElem?_range w] at e;simpa using e
      ·rw[List.getElem?_eq_none (by simpa using w)] at e;simp at e
     have e:=congrArg (fun l=>l[c']?) f2
     rw[List.getElem?_range (by omega),List.getElem?_append_left (by omega)] at e
     exact List.mem_of_getElem? e.symm
    simpa using f3 c' hc'
  | none =>
   have no:=List.find?_eq_none.mp hf
   have run:∀ k,k≤SetTable.runEnd m (lp m h L).1-(lp m h L).1→(ow.getD ((lp m h L).1+k) (some 0)).isNone=false:=fun k hk=>by
    have:=no k (List.mem_range.mpr (by omega))
    cases q:(ow.getD ((lp m h L).1+k) (some 0)).isNone with
    | false=>rfl
    | true=>exact absurd q this
   have hL:L≠L':=fun z=>by
    have:=run 0 (Nat.zero_le _)
    rw[Nat.add_zero,z,c] at this
    cases this
   refine j6z fuel (L+1) (n+(SetTable.runEnd m (lp m h L).1-(lp m h L).1)+1) ?_ ⟨L',by omega,by omega,c⟩ fun q hq'=>?_
   ·show adv m (pth m h (n+_))=_
    rw[j6x hn _ (Nat.le_refl _)]
    unfold adv
    rw[if_neg (by simp)]
    rfl
   ·by_cases z:q < n
    ·exact hq q z
    ·obtain⟨c',rfl⟩:∃ c',q=n+c':=⟨q-n,by omega⟩
     rw[pj c' (by omega)]
     exact run c' (by omega)
theorem set_perm:∀ (l:List (Option Nat)) (j k:Nat),l[j]?=some none→((l.set j (some k)).filterMap id).Perm (k :: l.filterMap id)
 | [],j,k,h=>by simp at h
 | a :: l,0,k,h=>by
  simp at h
  subst h
  exact List.Perm.refl _
 | a :: l,j+1,k,h=>by
  have ih:=set_perm l j k (by simpa using h)
  cases a with
  | none=>exact ih
  | some x=>exact (ih.cons x).trans (List.Perm.swap _ _ _)
structure LaidT (m:Nat) (hs:List Int) (ow:OwnA):Prop where
 size:ow.size=m+1
 perm:(ow.toList.filterMap id).Perm (List.range hs.length)
 way:∀ j i,ow[j]?=some (some i)→∃ h,hs[i]?=some h∧∃ N,(pth m h N).j=j∧∀ q,q < N→(ow.getD (pth m h q).j (some 0)).isNone=false
theorem jej (m:Nat):LaidT m [] (Array.replicate (m+1) none):=by
 refine⟨by simp,?_,fun j i h=>?_⟩
 ·have:((Array.replicate (m+1) (none:Option Nat)).toList.filterMap id)=[]:=by
   rw[List.filterMap_eq_nil_iff]
   intro x hx
   simp at hx
   exact hx
  rw[this]
  exact List.Perm.refl _
 ·rw[Array.getElem?_replicate] at h
  split at h <;> cases h
theorem jek {m:Nat}{hs:List Int}{ow:OwnA} (H:LaidT m hs ow) (hl:hs.length≤m):∃ e,e≤m∧ow[e]?=some none:=by
 refine Classical.byContradiction fun h=>?_
 have hz:=H.size
 have all:∀ e,e≤m→∃ i,ow[e]?=some (some i):=fun e he=>by
  rw[Array.getElem?_eq_getElem (by omega)]
  cases q:ow[e]'(by omega) with
  | none=>exact absurd ⟨e,he,by rw[Array.getElem?_eq_getElem (by omega),q]⟩ h
  | some i=>exact⟨i,rfl⟩
 have:(ow.toList.filterMap id).length=ow.toList.length:=by
  rw[List.length_filterMap_eq_countP,List.countP_eq_length]
  intro x hx
  obtain⟨e,he,q⟩:=List.getElem_of_mem hx
  rw[Array.length_toList] at he
  obtain⟨i,hi⟩:=all e (by omega)
  rw[Array.getElem?_eq_getElem he] at hi
  have:x=some i:=by rw[← q];simpa using hi
  rw[this]
  rfl
 rw[H.perm.length_eq,List.length_range,show ow.toList.length=m+1 from by rw[Array.length_toList];exact hz] at this
 omega
theorem jbe {m:Nat} (hm:Msk m) {hs:List Int}{ow:OwnA} (H:LaidT m hs ow) (hl:hs.length≤m) (h:Int):∃ j,SetTable.layClean.free m ow (SetTable.turns m) (SetTable.bits h % (m+1)) (SetTable.bits h)=some j∧LaidT m (hs++[h]) (ow.setIfInBounds j (some hs.length)):=by
 have hz:=H.size
 obtain⟨e,he,ee⟩:=jek H hl
 obtain⟨d,hd,hc⟩:=jcm hm (lp_lt m h 13) he
 obtain⟨N,f1,f2,f3⟩:=j6z (m:=m) (h:=h) (ow:=ow) (SetTable.turns m) 0 0 rfl ⟨13+d,by omega,by unfold SetTable.turns;omega,by rw[jei,hc,Array.getD_eq_getD_getElem?,ee];rfl⟩ fun q hq=>by omega
 have top:=j4t m h N
 have hj:(pth m h N).j < ow.size:=by omega
 have ej:ow[(pth m h N).j]?=some none:=by
  rw[Array.getD_eq_getD_getElem?,Array.getElem?_eq_getElem hj] at f2
  rw[Array.getElem?_eq_getElem hj]
  simpa using f2
 have grow:∀ x:Nat,(ow.getD x (some 0)).isNone=false→((ow.setIfInBounds (pth m h N).j (some hs.length)).getD x (some 0)).isNone=false:=fun x hx=>by
  rw[Array.getD_eq_getD_getElem?] at hx ⊢
  skip;rw[Array.getElem?_setIfInBounds]
  split <;> first | rfl | exact hx | (split <;> rfl)
 refine⟨_,f1,by simp[hz],?_,fun x i q=>?_⟩
 ·rw[Array.toList_setIfInBounds,List.length_append,List.length_singleton,List.range_succ]
  exact (set_perm _ _ _ (by rw[Array.getElem?_toList];exact ej)).trans ((H.perm.cons _).trans (List.perm_append_comm (l₁:=[hs.length])))
 ·rw[Array.getElem?_setIfInBounds] at q
  by_cases z:(pth m h N).j=x
  ·rw[if_pos z,if_pos (by omega)] at q
   cases q
   exact⟨h,by simp,N,z,fun r hr=>grow _ (f3 r hr)⟩
  ·rw[if_neg z] at q
   obtain⟨h',e1,N',e2,e3⟩:=H.way x i q
   refine⟨h',?_,N',e2,fun r hr=>grow _ (e3 r hr)⟩
   rw[List.getElem?_append_left]
   ·exact e1
   ·obtain⟨w,_⟩:=List.getElem?_eq_some_iff.mp e1
    exact w
theorem jel {m:Nat} (hm:Msk m) (hs:List Int) (hl:hs.length≤m):∃ ow,SetTable.layClean m hs.toArray=some ow∧LaidT m hs ow:=by
 have go:∀ (l done:List Int) (ow:OwnA),(done++l).length≤m+0→LaidT m done ow→∃ ow',(l.foldl (fun (acc:Option (OwnA × Nat)) h=>do
   let (owner,k) ← acc
   let j ← SetTable.layClean.free m owner (SetTable.turns m) (SetTable.bits h % (m+1)) (SetTable.bits h)
   pure (owner.setIfInBounds j (some k),k+1)) (some (ow,done.length)))=some (ow',(done++l).length)∧LaidT m (done++l) ow':=by
  intro l
  induction l with
  | nil=>intro done ow _ H;exact⟨ow,by simp,by simpa using H⟩
  | cons h l ih =>
   intro done ow hlen H
   obtain⟨j,f1,H1⟩:=jbe hm H (by simp at hlen;omega) h
   obtain⟨ow',e1,e2⟩:=ih (done++[h]) _ (by simpa using hlen) H1
   refine⟨ow',?_,by simpa using e2⟩
   rw[List.foldl_cons]
   have:(do
     let (owner,k) ← some (ow,done.length)
     let j ← SetTable.layClean.free m owner (SetTable.turns m) (SetTable.bits h % (m+1)) (SetTable.bits h)
     pure (owner.setIfInBounds j (some k),k+1))=some (ow.setIfInBounds j (some done.length),(done++[h]).length):=by
    show (SetTable.layClean.free m ow (SetTable.turns m) (SetTable.bits h % (m+1)) (SetTable.bits h)).bind _=_
    rw[f1]
    simp
   rw[this,e1]
   simp
 obtain⟨ow,e,H⟩:=go hs [] _ (by simpa using hl) (jej m)
 refine⟨ow,?_,by simpa using H⟩
 unfold SetTable.layClean
 rw[List.foldl_toArray]
 simp only[List.length_nil] at e
 rw[e]
 rfl
def j0u (ow:OwnA) (m:Nat):List (Nat × Nat):=(List.range (m+1)).filterMap fun j=>(ow.getD j none).map (j,·)
theorem jem {ow:OwnA}{m:Nat} (hz:ow.size=m+1):(j0u ow m).map (·.2)=ow.toList.filterMap id:=by
 have e:ow.toList=(List.range (m+1)).map fun j=>ow.getD j none:=by
  refine List.ext_getElem? fun i=>?_
  rw[List.getElem?_map]
  by_cases hi:i < m+1
  ·rw[List.getElem?_range hi,Array.getElem?_toList,Array.getElem?_eq_getElem (by omega)]
   simp[Array.getD,hz,hi]
  ·rw[List.getElem?_eq_none (by rw[Array.length_toList];omega),List.getElem?_eq_none (by simpa using hi)]
   rfl
 rw[e,List.filterMap_map]
 unfold j0u
 rw[List.map_filterMap]
 congr 1
 funext j
 show Option.map (·.2) ((ow.getD j none).map (j,·))=ow.getD j none
 cases ow.getD j none <;> rfl
theorem j5u {ow:OwnA}{m:Nat} (hz:ow.size=m+1) {j i:Nat}:(j,i)∈j0u ow m↔ow[j]?=some (some i):=by
 unfold j0u
 rw[List.mem_filterMap]
 constructor
 ·rintro⟨x,hx,e⟩
  obtain⟨y,e1,e2⟩:=Option.map_eq_some_iff.mp e
  cases e2
  rw[List.mem_range] at hx
  rw[Array.getD_eq_getD_getElem?,Array.getElem?_eq_getElem (by omega)] at e1
  rw[Array.getElem?_eq_getElem (by omega)]
  exact congrArg some e1
 ·intro h
  obtain⟨hj,_⟩:=Array.getElem?_eq_some_iff.mp h
  refine⟨j,List.mem_range.mpr (by omega),?_⟩
  rw[Array.getD_eq_getD_getElem?,h]
  rfl
theorem jen (ow:OwnA) (m:Nat):((j0u ow m).map (·.1)).Pairwise (· < ·):=by
 unfold j0u
 rw[List.pairwise_map,List.pairwise_filterMap]
 refine (List.pairwise_lt_range (n:=m+1)).imp fun {a b} hab x hx y hy=>?_
 obtain⟨_,_,rfl⟩:=Option.map_eq_some_iff.mp hx
 obtain⟨_,_,rfl⟩:=Option.map_eq_some_iff.mp hy
 exact hab
theorem fm_at {α β:Type} (f:α→Option β):∀ (l:List α),(∀ a∈l,(f a).isSome=true)→∀ r:Nat,(l.filterMap f)[r]?=l[r]?.bind f
 | [],_,r=>by simp
 | a :: l,h,r=>by
  obtain⟨b,hb⟩:=Option.isSome_iff_exists.mp (h a List.mem_cons_self)
  rw[List.filterMap_cons_some hb]
  cases r with
  | zero=>simp[hb]
  | succ r=>simpa using fm_at f l (fun x hx=>h x (List.mem_cons_of_mem _ hx)) r
theorem j70 {t:SetTable}{es:Array (Int × Value)}{wanted m:Nat} (hm0:Msk m) (hw:SetTable.sizeAbove wanted=m+1) (hn:es.size * 5 < m * 3) :
  ∃ t' order,t.relaid (es.map (·.1)) wanted=some (t',order)∧(order.filterMap (es[·]?)).size=es.size∧(order.filterMap (es[·]?)).toList.Perm es.toList∧Tab t' (order.filterMap (es[·]?))∧t'.led=t.led∧t'.plain=t.plain∧order.toList.Perm (List.range es.size):=by
 obtain⟨ow,e,H⟩:=jel hm0 (es.toList.map (·.1)) (by simp;omega)
 have hz:=H.size
 have ha:(es.toList.map (·.1)).toArray=es.map (·.1):=by apply Array.ext';simp
 rw[ha] at e
 have p1:=jem (m:=m) hz
 have p2:((j0u ow m).map (·.2)).Perm (List.range es.size):=by
  rw[p1]
  have:=H.perm
  simpa using this
 have len:(j0u ow m).length=es.size:=by have:=p2.length_eq;simpa using this
 have lt:∀ i∈(j0u ow m).map (·.2),i < es.size:=fun i hi=>List.mem_range.mp (p2.mem_iff.mp hi)
 have some_:∀ i∈(j0u ow m).map (·.2),(es[i]?).isSome=true:=fun i hi=>by rw[Array.getElem?_eq_getElem (lt i hi)];rfl
 have el:(((j0u ow m).map (·.2)).toArray.filterMap (es[·]?)).toList=((j0u ow m).map (·.2)).filterMap (es[·]?):=by rw[Array.toList_filterMap]
 have perm:(((j0u ow m).map (·.2)).filterMap (es[·]?)).Perm es.toList:=by
  refine (p2.filterMap _).trans ?_
  have:=j3n es.toList es.size (by simp)
  rw[List.take_of_length_le (by simp)] at this
  have e2:(fun i:Nat=>es[i]?)=fun i:Nat=>es.toList[i]?:=by funext i;rw[Array.getElem?_toList]
  rw[e2,this]
 have sz:(((j0u ow m).map (·.2)).toArray.filterMap (es[·]?)).size=es.size:=by rw[← Array.length_toList,el,perm.length_eq,Array.length_toList]
 refine⟨{ mask:=m,place:=((j0u ow m).map (·.1)).toArray,dummies:=#[],finger:=t.finger,led:=t.led,moves:=t.movedTo m,plain:=t.plain },((j0u ow m).map (·.2)).toArray,?_,sz,by rw[el];exact perm,⟨hm0,rfl,jen ow m,by rw[sz];simp[len],by rw[sz];exact hn,fun j hj=>?_,fun i hi=>?_⟩,rfl,rfl,p2⟩
 ·unfold SetTable.relaid SetTable.laid
  rw[hw]
  show (SetTable.layClean m (es.map (·.1))).bind _=_
  rw[e]
  rfl
 ·obtain⟨⟨x,y⟩,hp,rfl⟩:=List.mem_map.mp (show j∈(j0u ow m).map (·.1) from hj)
  obtain⟨hx,_⟩:=Array.getElem?_eq_some_iff.mp ((j5u hz).mp hp)
  show x≤m
  omega
 ·rw[sz] at hi
  have hi2:i < (j0u ow m).length:=by omega
  have hm:(j0u ow m)[i]∈j0u ow m:=List.getElem_mem hi2
  cases hq:(j0u ow m)[i] with
  | mk j o =>
   rw[hq] at hm
   obtain⟨h,h1,N,h2,h3⟩:=H.way j o ((j5u hz).mp hm)
   have ho:o < es.size:=lt o (List.mem_map.mpr ⟨_,hm,rfl⟩)
   have ee:(((j0u ow m).map (·.2)).toArray.filterMap (es[·]?))[i]?=some es[o]:=by
    rw[← Array.getElem?_toList,el,fm_at _ _ some_,List.getElem?_map,List.getElem?_eq_getElem hi2,hq]
    show es[o]?=_
    exact Array.getElem?_eq_getElem ho
   obtain⟨hb,eq⟩:=Array.getElem?_eq_some_iff.mp ee
   have hh:h=es[o].1:=by
    rw[List.getElem?_map,Array.getElem?_toList,Array.getElem?_eq_getElem ho] at h1
    exact (Option.some.inj h1).symm
   rw[eq,← hh]
   refine⟨N,?_,fun q hq'=>?_⟩
   ·rw[h2]
    show j=(((j0u ow m).map (·.1)).toArray).getD i 0
    rw[Array.getD_eq_getD_getElem?,List.getElem?_toArray,List.getElem?_map,List.getElem?_eq_getElem hi2,hq]
    rfl
   ·have:=h3 q hq'
    have tp:=j4t m h q
    rw[Array.getD_eq_getD_getElem?,Array.getElem?_eq_getElem (by omega)] at this
    cases w:ow[(pth m h q).j]'(by omega) with
    | none=>rw[w] at this;cases this
    | some i'=>exact List.mem_map.mpr ⟨((pth m h q).j,i'),(j5u hz).mpr (by rw[Array.getElem?_eq_getElem (by omega),w]),rfl⟩
theorem jco {t:SetTable}{es:Array (Int × Value)}{hash:Int}{x:Value}{r:Nat} (T:Tab t es) (n1:(pth t.mask hash r).j∉t.place.toList) (n2:(pth t.mask hash r).j≤t.mask) (n3:∀ q,q < r→(pth t.mask hash q).j∈t.place.toList) (hr:(es.size+1) * 5 < t.mask * 3) :
  Tab { t with place:=SetTable.insertAt t.place (SetTable.below t.place (pth t.mask hash r).j) (pth t.mask hash r).j } (SetTable.insertAt es (SetTable.below t.place (pth t.mask hash r).j) (hash,x)):=by
 have L:=j2n T.ris (pth t.mask hash r).j
 generalize SetTable.below t.place (pth t.mask hash r).j=p at L
 have lp':=L.le
 have hsz:=T.size
 have pl:=j1h t.place p (pth t.mask hash r).j
 have el:=j1h es p (hash,x)
 have es1:(SetTable.insertAt es p (hash,x)).size=es.size+1:=by
  rw[← Array.length_toList,el,List.length_append,List.length_take,List.length_cons,List.length_drop,Array.length_toList]
  omega
 have ps1:(SetTable.insertAt t.place p (pth t.mask hash r).j).size=t.place.size+1:=by
  rw[← Array.length_toList,pl,List.length_append,List.length_take,List.length_cons,List.length_drop,Array.length_toList]
  omega
 have up:∀ y,y∈t.place.toList→y∈(SetTable.insertAt t.place p (pth t.mask hash r).j).toList:=fun y hy=>by
  rw[pl]
  rw[← List.take_append_drop p t.place.toList] at hy
  rcases List.mem_append.mp hy with h | h
  ·exact List.mem_append_left _ h
  ·exact List.mem_append_right _ (List.mem_cons_of_mem _ h)
 refine⟨T.mask,T.dum,j9b T.ris L n1,by rw[es1];show (SetTable.insertAt t.place p (pth t.mask hash r).j).size=_;rw[ps1,hsz],by rw[es1];exact hr,fun j hj=>?_,fun i hi=>?_⟩
 ·rw[pl] at hj
  rcases List.mem_append.mp hj with h | h
  ·exact T.top j (List.mem_of_mem_take h)
  ·skip;rcases List.mem_cons.mp h with rfl | h
   ·exact n2
   ·exact T.top j (List.mem_of_mem_drop h)
 ·have at1:∀ (i:Nat),(SetTable.insertAt es p (hash,x))[i]?=if i < p then es[i]? else if i=p then some (hash,x) else es[i-1]?:=fun i=>by
   rw[← Array.getElem?_toList,el]
   by_cases a:i < p
   ·rw[if_pos a,List.getElem?_append_left (by simp;omega),List.getElem?_take_of_lt a,Array.getElem?_toList]
   ·rw[if_neg a,List.getElem?_append_right (by simp;omega),List.length_take,Array.length_toList,show min p es.size=p by omega]
    by_cases b:i=p
    ·rw[if_pos b,b,Nat.sub_self];rfl
    ·rw[if_neg b]
     obtain⟨c,rfl⟩:∃ c,i=p+1+c:=⟨i-p-1,by omega⟩
     rw[show p+1+c-p=c+1 by omega,List.getElem?_cons_succ,List.getElem?_drop,Array.getElem?_toList,show p+1+c-1=p+c by omega]
  have at2:∀ (i:Nat),(SetTable.insertAt t.place p (pth t.mask hash r).j).getD i 0=if i < p then t.place.getD i 0 else if i=p then (pth t.mask hash r).j else t.place.getD (i-1) 0:=fun i=>by
   rw[Array.getD_eq_getD_getElem?,← Array.getElem?_toList,pl]
   by_cases a:i < p
   ·rw[if_pos a,List.getElem?_append_left (by simp;omega),List.getElem?_take_of_lt a,Array.getElem?_toList,Array.getD_eq_getD_getElem?]
   ·rw[if_neg a,List.getElem?_append_right (by simp;omega),List.length_take,Array.length_toList,show min p t.place.size=p by omega]
    by_cases b:i=p
    ·rw[if_pos b,b,Nat.sub_self];rfl
    ·rw[if_neg b]
     obtain⟨c,rfl⟩:∃ c,i=p+1+c:=⟨i-p-1,by omega⟩
     rw[show p+1+c-p=c+1 by omega,List.getElem?_cons_succ,List.getElem?_drop,Array.getElem?_toList,show p+1+c-1=p+c by omega,Array.getD_eq_getD_getElem?]
  have e:=at1 i
  rw[Array.getElem?_eq_getElem hi] at e
  have e2:=at2 i
  show ∃ N,(pth t.mask (SetTable.insertAt es p (hash,x))[i].1 N).j=(SetTable.insertAt t.place p (pth t.mask hash r).j).getD i 0∧_
  by_cases a:i < p
  ·rw[if_pos a,Array.getElem?_eq_getElem (by omega)] at e
   rw[if_pos a] at e2
   rw[Option.some.inj e,e2]
   obtain⟨N,w1,w2⟩:=T.way i (by omega)
   exact⟨N,w1,fun q hq=>up _ (w2 q hq)⟩
  ·rw[if_neg a] at e e2
   by_cases b:i=p
   ·rw[if_pos b] at e e2
    rw[Option.some.inj e,e2]
    exact⟨r,rfl,fun q hq=>up _ (n3 q hq)⟩
   ·rw[if_neg b,Array.getElem?_eq_getElem (by omega)] at e
    rw[if_neg b] at e2
    rw[Option.some.inj e,e2]
    obtain⟨N,w1,w2⟩:=T.way (i-1) (by omega)
    exact⟨N,w1,fun q hq=>up _ (w2 q hq)⟩
theorem j1i {α:Type} (xs:Array α) (p:Nat) (x:α):(SetTable.insertAt xs p x).toList.Perm (x :: xs.toList):=by
 rw[j1h]
 refine List.perm_middle.trans ?_
 rw[List.take_append_drop]
section
variable {prog:Program}{w:World}{A:Around}{E:Value→Shared→Prop}{s:Shared}
theorem jht {S a:Addr}{es:Array (Int × Value)}{ep:Nat}{t:SetTable}{hash:Int}{K:Type} [DecidableEq K] {key:Nat→K}{k:K}{Q:Bool→Shared→Prop} (hS:s.heap.get? S=some (stObj es ep t)) (T:Tab t es) (hp:t.plain=true) (hb:es.size < 60) (H:Asks prog w A E s es (.ref a) hash key k)
  (hv:∀ Q:Bool→Shared→Prop,Q true s→wpAny (model prog w) A (hashByValue 8 (.ref a)) Q E s)
  (h1:(∃ i,i < es.size∧key i=k)→Q false s)
  (h2:(∀ i,i < es.size→key i≠k)→∀ h' es' t' ep',Heap.SameBut S s.heap h'→h'.get? S=some (stObj es' ep' t')→Tab t' es'→t'.led=t.led→t'.plain=true→es'.toList.Perm ((hash,.ref a) :: es.toList)→Q true { s with heap:=h' }) :
  wpAny (model prog w) A (setAddHashed S (.ref a) hash) Q E s:=by
 obtain⟨e0,e1,e2⟩:=T.free
 obtain⟨N,m1,m2⟩:=meets T.mask hash e1
 skip;unfold setAddHashed setAddHashedIn
 refine wpAny_holding (wpAny_bind (wpAny_setState_of hS rfl T.fits ?_))
 dsimp only
 rw[show byScan (.ref a) es=false from rfl,if_neg (by decide)]
 refine wpAny_bind ?_
 unfold setSearch
 have mk:t.mask≤127:=by rcases T.mask with h | h | h <;> omega
 refine j42 hS T H (fun q=>?_) (fun q r n1 n2 n3=>?_) 100000 0 ⟨N,by omega,m1,by omega,by rw[m2];exact e2⟩ (fun q hq=>by omega) none (.inr ⟨rfl,rfl⟩)
 ·exact wpAny_pure (h1 q)
 ·dsimp only
  refine wpAny_bind (wpAny_setState_of hS rfl T.fits ?_)
  dsimp only
  have pu:t.put (pth t.mask hash r).j=({ t with place:=SetTable.insertAt t.place (SetTable.below t.place (pth t.mask hash r).j) (pth t.mask hash r).j },SetTable.below t.place (pth t.mask hash r).j):=by
   unfold SetTable.put
   rw[T.dum]
   have:SetTable.has #[] (pth t.mask hash r).j=false:=by unfold SetTable.has;simp
   rw[this]
   simp[T.dum]
  rw[pu]
  dsimp only
  rw[if_pos hp]
  refine wpAny_bind (hv _ ?_)
  rw[if_pos rfl]
  have ip:=j1i es (SetTable.below t.place (pth t.mask hash r).j) (hash,Value.ref a)
  have isz:(SetTable.insertAt es (SetTable.below t.place (pth t.mask hash r).j) (hash,Value.ref a)).size=es.size+1:=by rw[← Array.length_toList,ip.length_eq,List.length_cons,Array.length_toList]
  have pp:=j1i t.place (SetTable.below t.place (pth t.mask hash r).j) (pth t.mask hash r).j
  have psz:(SetTable.insertAt t.place (SetTable.below t.place (pth t.mask hash r).j) (pth t.mask hash r).j).size=es.size+1:=by rw[← Array.length_toList,pp.length_eq,List.length_cons,Array.length_toList,T.size]
  refine wpAny_bind (wpAny_storeSet_of hS rfl ?_ (by rw[isz,sizeLine_eq];omega))
  generalize ht:({ t with place:=SetTable.insertAt t.place (SetTable.below t.place (pth t.mask hash r).j) (pth t.mask hash r).j }:SetTable)=t1
  generalize he:SetTable.insertAt es (SetTable.below t.place (pth t.mask hash r).j) (hash,Value.ref a)=es1 at ip isz
  have o1:(s.heap.update S (Obj.putSet es1 t1)).get? S=some (stObj es1 (ep+1) t1):=Heap.get?_update_self _ hS rfl
  have s1:Heap.SameBut S s.heap (s.heap.update S (Obj.putSet es1 t1)):=Heap.SameBut.update ..
  have l1:t1.led=t.led:=by rw[← ht]
  have p1:t1.plain=true:=by rw[← ht];exact hp
  have tf:t1.tooFull=decide ((es.size+1) * 5≥t.mask * 3):=by
   rw[← ht]
   unfold SetTable.tooFull SetTable.fill
   show decide (((SetTable.insertAt t.place _ _).size+t.dummies.size) * 5≥t.mask * 3)=_
   rw[psz,T.dum]
   rfl
  by_cases full:(es.size+1) * 5≥t.mask * 3
  ·rw[tf,decide_eq_true full,if_pos (by decide)]
   obtain⟨m',hm',wn,rm⟩:∃ m',Msk m'∧SetTable.sizeAbove (SetTable.grown (es.size+1))=m'+1∧(es.size+1) * 5 < m' * 3:=by
    have:=T.room
    rcases T.mask with h | h | h
    ·have hn:es.size=4:=by omega
     exact⟨31,.inr (.inl rfl),by rw[hn];decide +kernel,by omega⟩
    ·have hn:es.size=18:=by omega
     exact⟨127,.inr (.inr rfl),by rw[hn];decide +kernel,by omega⟩
    ·omega
   have f1:t1.fits es1.size=true:=by
    have:=T.room
    rw[← ht,isz]
    unfold SetTable.fits SetTable.fill
    show ((SetTable.insertAt t.place _ _).size == _ && decide ((SetTable.insertAt t.place _ _).size+t.dummies.size≤t.mask))=true
    rw[psz,T.dum,Bool.and_eq_true,beq_iff_eq,decide_eq_true_iff]
    have z:(#[]:Array Nat).size=0:=rfl
    refine⟨rfl,?_⟩
    rcases T.mask with h | h | h <;> omega
   obtain⟨t2,ord,r1,r2,r3,r4,r5,r6,_⟩:=j70 (t:=t1) (es:=es1) hm' wn (by rw[isz];exact rm)
   refine wpAny_bind ?_
   unfold setRelay
   refine wpAny_bind (wpAny_setState_of o1 rfl f1 ?_)
   dsimp only
   rw[wn,if_neg (by rw[sizeLine_eq];rcases hm' with h | h | h <;> rw[h] <;> decide),r1]
   refine wpAny_bind ?_
   show wpAny _ _ (if (ord.filterMap (es1[·]?)).size != es1.size then _ else _) _ _ _
   rw[if_neg (by rw[r2];simp)]
   refine wpAny_pure ?_
   refine wpAny_storeSet_of o1 rfl ?_ (by rw[r2,isz,sizeLine_eq];omega)
   exact wpAny_pure (h2 q _ _ t2 _ (s1.trans (Heap.SameBut.update ..)) (Heap.get?_update_self _ o1 rfl) r4 (r5.trans l1) (r6.trans p1) (r3.trans ip))
  ·rw[tf,decide_eq_false full,if_neg (by decide)]
   refine wpAny_pure (h2 q _ _ t1 _ s1 o1 ?_ l1 p1 ip)
   have:=jco (x:=Value.ref a) T n1 n2 n3 (by omega)
   rw[ht,he] at this
   exact this
end
section
variable {prog:Program}{w:World}{A:Around}{E:Value→Shared→Prop}{s:Shared}
theorem items_int {ks:List Int}{vs:List Value} (h:ItemsAre (intKind prog w) ks vs):∀ v∈vs,∃ n t,v=.int n t:=by
 induction h with
 | nil=>exact fun v hv=>by simp at hv
 | @cons k v' ks vs h1 _ ih =>
  intro v hv
  skip;rcases List.mem_cons.mp hv with rfl | hv
  ·obtain⟨t,e⟩:=Value.isInt_shape h1
   exact⟨_,t,e⟩
  ·exact ih v hv
theorem hv_row {ks:List Int}{a:Addr}{Q:Bool→Shared→Prop} (hk:IsTupleKey (intKind prog w) s.heap ks a) (h:Q true s):wpAny (model prog w) A (hashByValue 8 (.ref a)) Q E s:=by
 have hT:=hk.typeIs
 skip;obtain⟨o,items,n,ho,_,hd,hi⟩:=hk
 unfold hashByValue
 refine wpAny_bind (wpAny_specialOf hT PySem.F.slot_tuple_hash.lookup ?_)
 dsimp only
 skip;refine wpAny_bind (wpAny_seqItems ho hd ?_)
 refine wpAny_bind ?_
 skip;show wpAny _ _ (forIn items _ _) _ _ s
 rw[← Array.forIn_toList]
 refine wpAny_forIn_list _ (fun rest r s'=>r.1=none∧s'=s∧∀ v∈rest,∃ n t,v=.int n t) _ ?_ ?_ _ _ ⟨rfl,rfl,items_int hi⟩
 ·rintro v rest r s' ⟨hr,rfl,all⟩
  obtain⟨m,t,rfl⟩:=all v List.mem_cons_self
  refine wpAny_bind (m:=hashByValue 7 (.int m t)) (wpAny_of_eq (a:=true) (by unfold hashByValue;rfl) ?_)
  skip;simp only[Bool.not_true,Bool.false_eq_true,if_false]
  exact wpAny_pure ⟨rfl,rfl,fun u hu=>all u (List.mem_cons_of_mem _ hu)⟩
 ·skip;rintro⟨r1,r2⟩ s' ⟨hr,rfl,_⟩
  simp only at hr
  subst hr
  exact wpAny_pure h
theorem jj7 {ks:List Int}{a:Addr}{Q:Bool→Shared→Prop} (hk:IsTupleKey (intKind prog w) s.heap ks a) (h:Q false s):wpAny (model prog w) A (ofAClassStatement 8 (.ref a)) Q E s:=by
 have hT:=hk.typeIs
 skip;obtain⟨o,items,n,ho,_,hd,hi⟩:=hk
 unfold ofAClassStatement
 refine wpAny_bind (wpAny_typeOf (T:="tuple") hT ?_)
 dsimp only
 rw[if_pos (by decide)]
 refine wpAny_bind (wpAny_pure ?_)
 skip;simp only[Bool.not_true,Bool.false_eq_true,if_false]
 skip;refine wpAny_bind (wpAny_seqItems ho hd ?_)
 refine wpAny_bind ?_
 skip;show wpAny _ _ (forIn items _ _) _ _ s
 rw[← Array.forIn_toList]
 refine wpAny_forIn_list _ (fun rest r s'=>r.1=none∧s'=s∧∀ v∈rest,∃ n t,v=.int n t) _ ?_ ?_ _ _ ⟨rfl,rfl,items_int hi⟩
 ·rintro v rest r s' ⟨hr,rfl,all⟩
  obtain⟨m,t,rfl⟩:=all v List.mem_cons_self
  refine wpAny_bind (m:=ofAClassStatement 7 (.int m t)) (wpAny_of_eq (a:=false) (by unfold ofAClassStatement;rfl) ?_)
  skip;simp only[Bool.false_eq_true,if_false]
  exact wpAny_pure ⟨rfl,rfl,fun u hu=>all u (List.mem_cons_of_mem _ hu)⟩
 ·skip;rintro⟨r1,r2⟩ s' ⟨hr,rfl,_⟩
  simp only at hr
  subst hr
  exact wpAny_pure h
theorem jeo {ks:List Int}{a:Addr} (hk:IsTupleKey (intKind prog w) s.heap ks a) {l:List Value} (hl:∀ y∈l,∃ b M,y=.ref b∧IsTupleKey (intKind prog w) s.heap M b) {Q:Bool→Shared→Prop} (h:Q false s):wpAny (model prog w) A (searchCouldBeSeen (.ref a) l) Q E s:=by
 unfold searchCouldBeSeen
 refine wpAny_bind ?_
 refine wpAny_forIn_list _ (fun rest r s'=>r.1=none∧s'=s∧∀ y∈rest,∃ b M,y=.ref b∧IsTupleKey (intKind prog w) s.heap M b) _ ?_ ?_ _ _ ⟨rfl,rfl,hl⟩
 ·rintro y rest r s' ⟨hr,rfl,all⟩
  obtain⟨b,M,rfl,hb⟩:=all y List.mem_cons_self
  have fin:∀ u∈rest,∃ b M,u=.ref b∧IsTupleKey (intKind prog w) s'.heap M b:=fun u hu=>all u (List.mem_cons_of_mem _ hu)
  dsimp only
  by_cases e:(a == b)=true
  ·rw[e]
   simp only[Bool.true_or,if_true]
   exact wpAny_pure ⟨rfl,rfl,fin⟩
  ·rw[Bool.not_eq_true] at e
   rw[e]
   rw[if_neg (by simp[carriedByValue])]
   refine wpAny_bind (wpAny_eqIsQuiet_tuple hk ?_)
   skip;simp only[Bool.not_true,Bool.false_eq_true,if_false]
   refine wpAny_bind (wpAny_eqIsQuiet_tuple hb ?_)
   skip;simp only[Bool.not_true,Bool.false_eq_true,if_false]
   refine wpAny_bind (jj7 hk ?_)
   skip;simp only[Bool.false_eq_true,if_false]
   refine wpAny_bind (jj7 hb ?_)
   skip;simp only[Bool.false_eq_true,if_false]
   exact wpAny_pure ⟨rfl,rfl,fin⟩
 ·skip;rintro⟨r1,r2⟩ s' ⟨hr,rfl,_⟩
  simp only at hr
  subst hr
  exact wpAny_pure h
def RowE (prog:Program) (w:World) (Z:Addr→List Int→Prop) (h:Heap) (e:Int × Value) (L:List Int):Prop:=∃ a,e.2=.ref a∧IsTupleKey (intKind prog w) h L a∧e.1=tupleKeyHash (intKind prog w) L∧Z a L
inductive RowsE (prog:Program) (w:World) (Z:Addr→List Int→Prop) (h:Heap):List (Int × Value)→List (List Int)→Prop
 | nil:RowsE prog w Z h [] []
 | cons {e:Int × Value}{L:List Int}{es:List (Int × Value)}{Ls:List (List Int)}:RowE prog w Z h e L→RowsE prog w Z h es Ls→RowsE prog w Z h (e :: es) (L :: Ls)
theorem RowsE.length {Z:Addr→List Int→Prop}{h:Heap}{es:List (Int × Value)}{Ls:List (List Int)} (r:RowsE prog w Z h es Ls):es.length=Ls.length:=by
 induction r with
 | nil=>rfl
 | cons _ _ ih=>simp[ih]
theorem RowsE.get {Z:Addr→List Int→Prop}{h:Heap}{es:List (Int × Value)}{Ls:List (List Int)} (r:RowsE prog w Z h es Ls):∀ (i:Nat) (hi:i < es.length),RowE prog w Z h es[i] (Ls.getD i []):=by
 induction r with
 | nil=>exact fun i hi=>by simp at hi
 | cons e _ ih =>
  intro i hi
  cases i with
  | zero=>simpa using e
  | succ i=>simpa using ih i (by simpa using hi)
theorem RowsE.perm {Z:Addr→List Int→Prop}{h:Heap}{us es:List (Int × Value)} (p:us.Perm es):∀ {Ls:List (List Int)},RowsE prog w Z h es Ls→∃ Ms,RowsE prog w Z h us Ms∧Ms.Perm Ls:=by
 induction p with
 | nil=>intro Ls r;exact⟨Ls,r,List.Perm.refl _⟩
 | cons x _ ih =>
  intro Ls r
  cases r with
  | cons e r =>
   obtain⟨m,a,b⟩:=ih r
   exact⟨_,.cons e a,b.cons _⟩
 | swap x y l =>
  intro Ls r
  cases r with
  | cons e r =>
   cases r with
   | cons e2 r2=>exact⟨_,.cons e2 (.cons e r2),List.Perm.swap _ _ _⟩
 | trans _ _ i1 i2 =>
  intro Ls r
  obtain⟨m,a,b⟩:=i2 r
  obtain⟨m2,a2,b2⟩:=i1 a
  exact⟨m2,a2,b2.trans b⟩
theorem j43 {h h':Heap}{L:List Int}{a:Addr} (k:IsTupleKey (intKind prog w) h L a) (e:∀ o,o.cls=.type "tuple"→h.get? a=some o→h'.get? a=some o):IsTupleKey (intKind prog w) h' L a:=by
 obtain⟨o,items,n,ho,hc,r⟩:=k
 exact⟨o,items,n,e o hc ho,hc,r⟩
theorem RowsE.kept {Z:Addr→List Int→Prop}{h h':Heap}{es:List (Int × Value)}{Ls:List (List Int)} (r:RowsE prog w Z h es Ls) (e:∀ b o,o.cls=.type "tuple"→h.get? b=some o→h'.get? b=some o):RowsE prog w Z h' es Ls:=by
 induction r with
 | nil=>exact .nil
 | cons x _ ih =>
  obtain⟨a,x1,x2,x3⟩:=x
  exact .cons ⟨a,x1,j43 x2 (e a),x3⟩ ih
theorem jbf {Z:Addr→List Int→Prop}{es:Array (Int × Value)}{Ls:List (List Int)}{L:List Int}{a:Addr} (hu:A.units < cLine) (r:RowsE prog w Z s.heap es.toList Ls) (hk:IsTupleKey (intKind prog w) s.heap L a):Asks prog w A E s es (.ref a) (tupleKeyHash (intKind prog w) L) (fun i=>Ls.getD i []) L:=by
 have at_:∀ (i:Nat) (hi:i < es.size),RowE prog w Z s.heap es[i] (Ls.getD i []):=fun i hi=>by
  have:=r.get i (by rw[Array.length_toList];exact hi)
  simpa using this
 refine⟨fun i hi e=>?_,fun i hi Q q=>?_,fun i hi=>?_,fun l hl Q q=>?_⟩
 ·obtain⟨b,x1,x2,x3⟩:=at_ i hi
  rw[x3.1,e]
 ·obtain⟨b,x1,x2,x3⟩:=at_ i hi
  rw[x1]
  exact wpAny_eqBool_tuple hu x2 hk q
 ·obtain⟨b,x1,_⟩:=at_ i hi
  exact⟨b,x1⟩
 ·refine jeo hk (fun y hy=>?_) q
  obtain⟨i,hi,e⟩:=hl y hy
  obtain⟨b,x1,x2,_⟩:=at_ i hi
  exact⟨b,_,by rw[e,x1],x2⟩
end
def j4u (prog:Program) (w:World) (Z:Addr→List Int→Prop) (h0 h:Heap) (S:Addr) (Ms:List (List Int)):Prop :=
 ∃ es ep t,h.get? S=some (stObj es ep t)∧Tab t es∧t.led=(!byT w)∧t.plain=true∧RowsE prog w Z h0 es.toList Ms∧Ms.Nodup
section
variable {w:World}{prog:Program}{A:Around}
variable {R:Result→Shared→Prop}{I:Addr}{fp wr:List Addr}{G:Array GenState→Array GenState→Prop}{n:Nat}{P:Nat→Value→Prop}{St:Nat→Shared→Prop}
theorem j0v {Ms:List (List Int)}{L:List Int}:(∃ i,i < Ms.length∧Ms.getD i []=L)↔L∈Ms:=by
 constructor
 ·rintro⟨i,hi,e⟩
  rw[List.getD_eq_getElem?_getD,List.getElem?_eq_getElem hi] at e
  rw[← e]
  exact List.getElem_mem hi
 ·intro h
  obtain⟨i,hi,e⟩:=List.getElem_of_mem h
  exact⟨i,hi,by rw[List.getD_eq_getElem?_getD,List.getElem?_eq_getElem hi];exact e⟩
theorem jbg {Z:Addr→List Int→Prop} (W:WalksS prog w A.in1 I fp wr G n P St) (hu:A.in1.units < cLine) (S:Addr) (hSf:S∉fp) (Ls:List (List Int)) (hn:Ls.length=n) (hb:n≤60) (h0:Heap) (hrow:∀ i v,P i v→∃ a,v=.ref a∧IsTupleKey (intKind prog w) h0 (Ls.getD i []) a∧Z a (Ls.getD i []))
  (hnt:∀ b o,b∈S :: wr→h0.get? b=some o→o.cls≠.type "tuple") :
  ∀ (k i:Nat) (s:Shared) (Ms:List (List Int)),n-i=k→i≤n→St i s→(∀ b o,o.cls=.type "tuple"→h0.get? b=some o→s.heap.get? b=some o)→j4u prog w Z h0 s.heap S Ms→Ms.length≤i→(∀ L,L∈Ms↔L∈Ls.take i) →
   (∀ s' Ms',Moved (S :: wr) G s s'→j4u prog w Z h0 s'.heap S Ms'→Ms'.length≤n→(∀ L,L∈Ms'↔L∈Ls)→R (.ok (.ret .none)) s') →
   codeAny (model prog w) A (Code.builtin "set.update.loop" ⟨[.ref S,.ref I],[]⟩) R s:=by
 skip;have hSw:S∉wr:=fun h=>hSf (W.sub _ h)
 have sub2:∀ b∈wr,b∈S :: wr:=fun b hb=>List.mem_cons_of_mem _ hb
 intro k
 induction k with
 | zero =>
  intro i s Ms hk hi hst hT hS hl hM hR
  obtain rfl:i=n:=by omega
  refine codeAny_builtin PyProof.Rows.F.entry_set_update_loop ?_;rw[Around.under_plainId PyProof.Rows.F.plain_set_update_loop _]
  show wpAny _ A.in1 (pyNext (.ref I) >>= _) _ _ s;refine wpAny_bind (W.done s _ _ hst fun s' hm=>?_)
  obtain⟨es,ep,t,g,r⟩:=hS
  exact wpAny_pure (hR s' Ms (hm.mono sub2) ⟨es,ep,t,hm.heap S _ hSw g,r⟩ hl (by rw[← hn,List.take_length] at hM;exact hM))
 | succ k ih =>
  intro i s Ms hk hi hst hT hS hl hM hR
  have hlt:i < n:=by omega
  refine codeAny_builtin PyProof.Rows.F.entry_set_update_loop ?_;rw[Around.under_plainId PyProof.Rows.F.plain_set_update_loop _]
  show wpAny _ A.in1 (pyNext (.ref I) >>= _) _ _ s;refine wpAny_bind (W.item i s _ _ hlt hst fun v s' hP hst' hm=>?_)
  obtain⟨a,rfl,hka,hza⟩:=hrow i v hP
  obtain⟨es,ep,t,g,T,l,p,r,nd⟩:=hS
  have hT':∀ b o,o.cls=.type "tuple"→h0.get? b=some o→s'.heap.get? b=some o:=fun b o c e=>hm.heap b o (fun z=>hnt b o (List.mem_cons_of_mem _ z) e c) (hT b o c e)
  have hk':=j43 hka (hT' a)
  have g':=hm.heap S _ hSw g
  have rl:=r.length
  rw[Array.length_toList] at rl
  have tk:Ls.take (i+1)=Ls.take i++[Ls.getD i []]:=by
   rw[List.take_add_one,List.getD_eq_getElem?_getD,List.getElem?_eq_getElem (by omega)]
   rfl
  show wpAny _ A.in1 (holding [Value.ref a] (setAdd S (.ref a)) >>= _) _ _ s'
  refine wpAny_bind (wpAny_holding ?_);unfold setAdd;refine wpAny_holding ?_
  refine wpAny_bind (wpAny_pyHash_tuple hu hk' ?_)
  have ht':s'.toks≤s'.toks+((Ls.getD i []).length+1):=by omega
  generalize s'.toks+((Ls.getD i []).length+1)=tk' at ht' ⊢
  refine jht (s:={ s' with toks:=tk' }) g' T p (by omega) (jbf (s:={ s' with toks:=tk' }) hu (r.kept hT') hk') (fun Q q=>hv_row (s:={ s' with toks:=tk' }) hk' q) (fun hin=>?_) (fun hno h' es' t' ep' sb g2 T2 l2 p2 pm=>?_)
  ·have hin':Ls.getD i []∈Ms:=by
    obtain⟨j,hj,e⟩:=hin
    exact j0v.mp ⟨j,by omega,e⟩
   refine wpAny_pure ⟨plainId_quiet PyProof.Rows.F.plain_set_update_loop _,ih (i+1) _ Ms (by omega) hlt (W.frame _ s' _ _ hst' ht' fun b hb o e=>e) hT' ⟨es,ep,t,g',T,l,p,r,nd⟩ (by omega) (fun L=>?_) fun s'' Ms' hm'' hS'' hl'' hM''=>?_⟩
   ·rw[tk,List.mem_append,List.mem_singleton,hM]
    exact⟨.inl,fun z=>z.elim id fun e=>by rw[e,← hM];exact hin'⟩
   ·exact hR s'' Ms' (Moved.trans W.gtrans ((hm.mono sub2).then_heap ht' fun b o hb e=>e) hm'') hS'' hl'' hM''
  ·have hno':Ls.getD i []∉Ms:=fun z=>by
    obtain⟨j,hj,e⟩:=j0v.mpr z
    exact hno j (by omega) e
   obtain⟨Ms',r2,pm2⟩:=RowsE.perm (prog:=prog) (w:=w) (h:=h0) pm (.cons ⟨a,rfl,hka,rfl,hza⟩ r)
   have sbk:∀ b o,b≠S→s'.heap.get? b=some o→h'.get? b=some o:=fun b o z e=>by rw[sb.2 b z];exact e
   refine wpAny_pure ⟨plainId_quiet PyProof.Rows.F.plain_set_update_loop _,ih (i+1) _ Ms' (by omega) hlt (W.frame _ s' _ _ hst' ht' fun b hb o e=>sbk b o (fun z:b=S=>hSf (by rw[← z];exact hb)) e) (fun b o c e=>sbk b o (fun z=>hnt b o (by rw[z];exact List.mem_cons_self) e c) (hT' b o c e)) ⟨es',ep',t',g2,T2,l2.trans l,p2,r2,pm2.nodup_iff.mpr (List.nodup_cons.mpr ⟨hno',nd⟩)⟩ (by rw[pm2.length_eq,List.length_cons];omega) (fun L=>?_) fun s'' Ms'' hm'' hS'' hl'' hM''=>?_⟩
   ·rw[tk,List.mem_append,List.mem_singleton,pm2.mem_iff,List.mem_cons,hM]
    exact⟨fun z=>z.symm,fun z=>z.symm⟩
   ·refine hR s'' Ms'' (Moved.trans W.gtrans ((hm.mono sub2).then_heap ht' fun b o hb e=>?_) hm'') hS'' hl'' hM''
    exact sbk b o (fun z=>hb (by rw[z];exact List.mem_cons_self)) e
end
section
variable {prog:Program}{w:World}{A:Around}{E:Value→Shared→Prop}{s:Shared}
set_option maxHeartbeats 8000000 in
theorem jbh {Z:Addr→List Int→Prop}{l:Addr}{items:Array Value}{Ls:List (List Int)}{Q:Value→Shared→Prop} (hh:A.handled=none) (hu:A.in1.in1.in1.units < cLine) (hl:s.heap.IsList l items) (hz:Ls.length=items.size) (hi:∀ (i:Nat) (v:Value),items[i]?=some v→∃ a,v=.ref a∧IsTupleKey (intKind prog w) s.heap (Ls.getD i []) a∧Z a (Ls.getD i [])) (hb:items.size≤60)
  (h:∀ (h':Heap) (tk:Nat) (Ms:List (List Int)),j4u prog w Z s.heap h' s.heap.objs.size Ms→Ms.length≤items.size→(∀ L,L∈Ms↔L∈Ls)→(∀ b o,b < s.heap.objs.size→s.heap.get? b=some o→h'.get? b=some o)→Q (.ref s.heap.objs.size) { s with heap:=h',toks:=tk }) :
  wpAny (model prog w) A (call (Value.type "set") [.ref l]) Q E s:=by
 obtain⟨c,tl,hmro⟩:=PySem.F.called_set.mro
 have hmade:=PySem.F.called_set.made
 have hsub:=PySem.F.called_set.sub
 refine wpAny_call (codeAny_of_tree ?_);show wpAny _ _ (callAny (.type "set") _) _ _ _;refine wpAny_pure ⟨Code.quiet_builtin _ (by decide +kernel),codeAny_builtin PySem.F.entry_type_call ?_⟩
 skip;rw[Around.under_plain (weight_type_call_type "set" [.ref l] []) rfl]
 have h1:=PySem.F.called_set.notType
 have h2:=PySem.F.called_set.canCreate
 have hct:=PySem.F.typeCall_set_1 (.ref l)
 skip;repeat (any_goals (first | assumption | wp_step))
 refine codeAny_mono (j96 (.ref l) (E:=E) (QN:=fun obj s₁=>obj=.ref s.heap.objs.size∧s₁={ s with heap:=s.heap.push (newSet (!byT w)) }) ⟨rfl,rfl⟩) fun r s₁ hr=>?_
 cases r with
 | error e=>exact hr
 | ok fl =>
  cases fl with
  | ret obj =>
   obtain⟨rfl,rfl⟩:=hr
   have hS:(s.heap.push (newSet (!byT w))).get? s.heap.objs.size=some (newSet (!byT w)):=Heap.get?_push_size _ rfl
   have hT:Shared.TypeIs { s with heap:=s.heap.push (newSet (!byT w)) } (.ref s.heap.objs.size) "set":=⟨_,hS,rfl⟩
   have hli:=PySem.F.called_set.init.lookup
   have hbi:=PySem.F.called_set.init.bind (.ref s.heap.objs.size)
   skip;repeat (any_goals (first | assumption | wp_step))
   refine codeAny_mono (codeAny_call_builtin (R:=wants (fun r s₂=>r=.none∧∃ h' tk Ms,s₂={ s with heap:=h',toks:=tk }∧j4u prog w Z s.heap h' s.heap.objs.size Ms∧Ms.length≤items.size∧(∀ L,L∈Ms↔L∈Ls)∧(∀ b o,b < s.heap.objs.size→s.heap.get? b=some o→h'.get? b=some o)) E) PySem.F.called_set.init.plain PySem.F.entry_set_init (check_set_init_1 hT ?_)) fun r₂ s₂ hr₂=>?_
   ·obtain⟨⟨ocls,odict,odata,oslots⟩,hol,hcl,nl,hdl⟩:=hl
    replace hcl:ocls=.type "list":=hcl
    replace hdl:odata=.seq items nl:=hdl
    subst hcl hdl
    have hol':(s.heap.push (newSet (!byT w))).get? l=some { cls:=.type "list",dict:=odict,data:=.seq items nl,slots:=oslots }:=Heap.get?_push_of_some _ hol
    have hsls:=PySem.F.sub_list_set
    have hslf:=PySem.F.sub_list_frozenset
    skip;have hne:(Value.type "list" == Value.type "dict")=false:=by decide
    have hl1:(s.heap.push (newSet (!byT w))).IsList l items:=⟨_,hol',rfl,nl,rfl⟩
    unfold Builtin.«set.__init__» noKeywords Builtin.Frozenset.updateFrom;generalize hPI:pyIter=PI;wp_walk;subst hPI
    refine wpAny_pyIter_list hl1 (wpAny_bind (wpAny_runValue ?_))
    skip;have hlS:l < s.heap.objs.size:=Heap.lt_size hol
    have hh3:A.in1.in1.in1.handled=none:=hh
    have hneI:l≠(s.heap.push (newSet (!byT w))).objs.size:=by rw[Heap.size_push];exact Nat.ne_of_lt (Nat.lt_succ_of_lt hlS)
    have hSf:s.heap.objs.size∉[(s.heap.push (newSet (!byT w))).objs.size,l]:=by
     rw[Heap.size_push];simp only[List.mem_cons,List.mem_nil_iff,or_false,not_or]
     skip;exact⟨Nat.ne_of_lt (Nat.lt_succ_self _),Nat.ne_of_gt hlS⟩
    have none_:∀ b,s.heap.objs.size≤b→s.heap.get? b=none:=fun b hb=>Heap.get?_none_of_le hb
    refine jbg ((Walks.list hh3 _ l hneI items).toS) hu s.heap.objs.size hSf Ls hz hb s.heap hi ?hnt (items.size-0) 0 _ [] (by omega) (Nat.zero_le _) ⟨⟨_,Heap.get?_push_size _ rfl,rfl,rfl⟩,hl1.push _⟩ ?hT ?hS0 (Nat.zero_le _) (fun L=>by simp) ?hR
    case hnt =>
     intro b o hb e
     skip;rcases List.mem_cons.mp hb with rfl | hb
     ·rw[none_ _ (Nat.le_refl _)] at e;cases e
     ·rw[List.mem_singleton.mp hb,none_ _ (by rw[Heap.size_push];exact Nat.le_succ _)] at e;cases e
    case hT=>exact fun b o _ e=>Heap.get?_push_of_some _ (Heap.get?_push_of_some _ e)
    case hS0=>exact⟨#[],0,_,Heap.get?_push_of_some _ hS,⟨.inl rfl,rfl,List.Pairwise.nil,rfl,by show 0 * 5 < 7 * 3;decide,fun j hj=>by simp[SetTable.fresh] at hj,fun i hi=>by simp at hi⟩,rfl,rfl,.nil,List.nodup_nil⟩
    case hR =>
     intro s' Ms' hm hS' hlen hmem
     obtain⟨h',g',d',t',o'⟩:=s'
     skip;have eg:g'=s.gens:=hm.gens
     skip;have ed:d'=s.drawn:=hm.drawn
     have eo:o'=s.os:=hm.os
     subst eg ed eo
     show wpAny _ _ _ _ _ _;refine wpAny_pure ?_;show wpAny _ _ (ret Value.none) _ _ _
     refine wpAny_pure ⟨rfl,h',t',Ms',rfl,hS',hlen,hmem,fun b o hb e=>?_⟩
     have hb2:b≠(s.heap.push (newSet (!byT w))).objs.size:=by rw[Heap.size_push];exact Nat.ne_of_lt (Nat.lt_succ_of_lt hb)
     refine hm.heap b o ?_ (Heap.get?_push_of_some _ (Heap.get?_push_of_some _ e))
     simp only[List.mem_cons,List.mem_nil_iff,or_false,not_or]
     exact⟨Nat.ne_of_lt hb,hb2⟩
   ·cases r₂ with
    | error e=>exact hr₂
    | ok fl₂ =>
     cases fl₂ with
     | ret r =>
      skip;obtain⟨rfl,h',tk,Ms,rfl,hS',hlen,hmem,hk'⟩:=hr₂
      skip;repeat (any_goals (first | assumption | wp_step))
      exact h _ _ _ hS' hlen hmem hk'
     | _=>exact hr₂.elim
  | _=>exact hr.elim
end
end L2
set_option Elab.async false
set_option linter.all false
set_option maxRecDepth 100000
set_option maxHeartbeats 4000000
namespace L2
open PySem PySem.Spec PyProof.Rows PySem.W
theorem j2c {prog:Program}{w:World}{ks:List Int}{vs:List Value} (h:ItemsAre (intKind prog w) ks vs):IntsAre vs ks:=by
 induction h with
 | nil=>exact .nil
 | @cons k v ks vs h1 _ ih =>
  obtain⟨t,e⟩:=Value.isInt_shape h1
  subst e
  exact .cons k t ih
theorem j2y {prog:Program}{w:World}:∀ {vs:List Value}{ks:List Int},IntsAre vs ks→ItemsAre (intKind prog w) ks vs
 | _,_,.nil=>.nil
 | _,_,.cons n t r=>.cons (intKind_is _ _ _ _) (j2y r)
inductive RowsV (prog:Program) (w:World) (Z:Addr→List Int→Prop) (h:Heap):List Value→List (List Int)→Prop
 | nil:RowsV prog w Z h [] []
 | cons {a:Addr}{L:List Int}{vs:List Value}{Ls:List (List Int)}:IsTupleKey (intKind prog w) h L a→Z a L→RowsV prog w Z h vs Ls→RowsV prog w Z h (.ref a :: vs) (L :: Ls)
section
variable {prog:Program}{w:World}{A:Around}{E:Value→Shared→Prop}{s:Shared}{Z:Addr→List Int→Prop}{h:Heap}
theorem jep {es:List (Int × Value)}{Ls:List (List Int)} (r:RowsE prog w Z h es Ls):RowsV prog w Z h (es.map (·.2)) Ls:=by
 induction r with
 | nil=>exact .nil
 | @cons e L es Ls x _ ih =>
  obtain⟨a,x1,x2,_,x4⟩:=x
  rw[List.map_cons,x1]
  exact .cons x2 x4 ih
theorem RowsV.length {vs:List Value}{Ls:List (List Int)} (r:RowsV prog w Z h vs Ls):vs.length=Ls.length:=by
 induction r with
 | nil=>rfl
 | cons _ _ _ ih=>simp[ih]
theorem RowsV.kept {h':Heap}{vs:List Value}{Ls:List (List Int)} (r:RowsV prog w Z h vs Ls) (e:∀ b o,o.cls=.type "tuple"→h.get? b=some o→h'.get? b=some o):RowsV prog w Z h' vs Ls:=by
 induction r with
 | nil=>exact .nil
 | cons x y _ ih=>exact .cons (j43 x (e _)) y ih
theorem RowsV.at {vs:List Value}{Ls:List (List Int)} (r:RowsV prog w Z h vs Ls) (hne:∀ L∈Ls,L≠[]):RowsAt h vs Ls:=by
 induction r with
 | nil=>trivial
 | @cons a L vs Ls x y _ ih =>
  obtain⟨o,items,n,ho,hc,hd,hi⟩:=x
  exact⟨⟨a,items,rfl,⟨o,ho,hc,n,hd⟩,j2c hi,hne L List.mem_cons_self⟩,ih fun M hM=>hne M (List.mem_cons_of_mem _ hM)⟩
theorem RowsV.pick {vs:List Value}{Ls:List (List Int)} (r:RowsV prog w Z h vs Ls):∀ (l:List Nat),(∀ i∈l,i < vs.length)→RowsV prog w Z h (l.map fun i=>vs.getD i .none) (l.map fun i=>Ls.getD i [])
 | [],_=>.nil
 | i :: l,hl=>by
  have one:∀ {vs:List Value}{Ls:List (List Int)} (i:Nat),RowsV prog w Z h vs Ls→i < vs.length→∃ a,vs.getD i .none=.ref a∧IsTupleKey (intKind prog w) h (Ls.getD i []) a∧Z a (Ls.getD i []):=by
   intro vs Ls i r
   induction r generalizing i with
   | nil=>intro hi;simp at hi
   | cons x y _ ih =>
    intro hi
    cases i with
    | zero=>exact⟨_,rfl,by simpa using x,by simpa using y⟩
    | succ i=>simpa using ih i (by simpa using hi)
  obtain⟨a,e1,e2,e3⟩:=one i r (hl i List.mem_cons_self)
  rw[List.map_cons,List.map_cons,e1]
  exact .cons e2 e3 (RowsV.pick r l fun j hj=>hl j (List.mem_cons_of_mem _ hj))
theorem jer {Ls:List (List Int)}{p:Array Nat}{n:Nat} (hp:OkP n p) (as:Asc (O:=rowOrd) (fun i=>Ls.getD i []) p n):(p.toList.map fun i=>Ls.getD i []).Pairwise fun a b=>¬ b < a:=by
 rw[List.pairwise_map,List.pairwise_iff_getElem]
 intro i j hi hj hij
 rw[Array.length_toList] at hi hj
 have hs:=hp.size
 have:=as i j (by omega) (by omega)
 unfold kAt at this
 rw[Array.getElem?_eq_getElem hi,Array.getElem?_eq_getElem hj] at this
 have q:decide (Ls.getD p[j] [] < Ls.getD p[i] [])=false:=this
 simpa using q
theorem j9g {S:Addr}{h0:Heap}{Ms:List (List Int)}{Q:Value→Shared→Prop} (hh:A.handled=none) (hS:j4u prog w Z h0 s.heap S Ms) (h64:Ms.length≤60) (hne:∀ L∈Ms,L≠[]) (hk:∀ b o,o.cls=.type "tuple"→h0.get? b=some o→s.heap.get? b=some o)
  (h:∀ (s':Shared) (h':Heap) (a:Addr) (out:List Value) (e:Nat) (Ls:List (List Int)),(∀ b o,s.heap.get? b=some o→h'.get? b=some o)→S < a→h'.get? a=some (seqObj "list" out.toArray e)→RowsV prog w Z h0 out Ls→Ls.Perm Ms→Ls.Pairwise (fun a b=>¬ b < a)→Q (.ref a) { s with heap:=h',toks:=s'.toks }):wpAny (model prog w) A (call (.builtin "sorted") [.ref S]) Q E s:=by
 obtain⟨es,ep,t,g,T,hled,hpl,hr,nd⟩:=hS
 have rl:=hr.length
 rw[Array.length_toList] at rl
 have hz:es.size≤sizeLine:=by rw[sizeLine_eq];omega
 refine Calls.call_function_entry kind_sorted plain_sorted entry_sorted (args_sorted1 _) ?_;unfold Builtin.«sorted»
 refine wpAny_bind (m:=checkCount "sorted" 1 1 _) (wpAny_pure (wpAny_bind (j4r hh g (j9d T.fits hpl T.ris T.size) hled hz fun s' acc hm ha=>?_)))
 have ea:acc.toList=(j6v w S ep es).toList.map (·.2):=by
  refine j2x (P:=fun i v=>((j6v w S ep es)[i]?).map (·.2)=some v) (by rw[List.length_map,Array.length_toList,j3z];exact ha) fun i v hv=>?_
  rw[List.getElem?_map,Array.getElem?_toList]
  exact hv
 obtain⟨M1,r1,p1⟩:=hr.perm (j5r w S ep es)
 have rv:=jep r1
 rw[← ea] at rv
 have l1:=rv.length
 have l2:=p1.length_eq
 skip;refine wpAny_bind (wpAny_newList ?_ (by rw[sizeLine_eq];omega))
 have o1:(s'.heap.push (seqObj "list" acc.toList.toArray 0)).get? s'.heap.objs.size=some (seqObj "list" acc.toList.toArray 0):=Heap.get?_push_size _ rfl
 have le:S < s'.heap.objs.size:=Heap.lt_size (hm.heap S _ (by simp) g)
 have kt:∀ b o,o.cls=.type "tuple"→h0.get? b=some o→(s'.heap.push (seqObj "list" acc.toList.toArray 0)).get? b=some o:=fun b o c e=>Heap.get?_push_of_some _ (hm.heap b o (by simp) (hk b o c e))
 refine wpAny_bind (wpAny_holding (wpAny_call_entry slot_list_sort ⟨_,o1,rfl⟩ entry_list_sort (jbd (s:={ s' with heap:=s'.heap.push (seqObj "list" acc.toList.toArray 0) }) o1 (by omega) ((rv.kept kt).at fun L hL=>hne L (p1.mem_iff.mp hL)) fun p ok as=>⟨_,rfl,wpAny_pure ⟨_,rfl,?_⟩⟩) (args_list_sort _)))
 obtain⟨h',g',d',t',q'⟩:=s'
 skip;have eg:g'=s.gens:=hm.gens
 skip;have ed:d'=s.drawn:=hm.drawn
 have eo:q'=s.os:=hm.os
 subst eg ed eo
 obtain⟨e,he⟩:=sortedHeap_at (out:=(p.toList.map fun i=>acc.toList.getD i .none).toArray) o1
 have all:∀ i∈p.toList,i < acc.toList.length:=fun i hi=>List.mem_range.mp (ok.mem_iff.mp hi)
 have pk:(p.toList.map fun i=>M1.getD i []).Perm M1:=by
  refine (ok.map _).trans ?_
  have:(List.range acc.toList.length).map (fun i=>M1.getD i [])=M1:=by
   rw[l1]
   refine List.ext_getElem? fun i=>?_
   by_cases hi:i < M1.length
   ·simp[hi]
   ·simp[hi]
  rw[this]
 refine h ⟨h',s.gens,s.drawn,t',s.os⟩ _ _ _ e _ (fun b o eb=>?_) le he (rv.pick p.toList all) (pk.trans p1) (jer ok as)
 have hb:=hm.heap b o (by simp) eb
 have lb:=Heap.lt_size hb
 refine (sortedHeap_old (Nat.ne_of_lt lb) ?_).trans (Heap.get?_push_of_some _ hb)
 rw[Heap.size_push]
 exact Nat.lt_succ_of_lt lb
end
inductive RefsH (H:Hp):List V→List (List Int)→Prop
 | nil:RefsH H [] []
 | cons {a:Addr}{L:List Int}{vs:List V}{Ls:List (List Int)}:H a=some (.tup (L.map V.int))→RefsH H vs Ls→RefsH H (.ref a :: vs) (L :: Ls)
theorem RefsH.length {H:Hp}{vs:List V}{Ls:List (List Int)} (r:RefsH H vs Ls):vs.length=Ls.length:=by
 induction r with
 | nil=>rfl
 | cons _ _ ih=>simp[ih]
theorem RefsH.mono {H H':Hp} (e:Ext H H') {vs:List V}{Ls:List (List Int)} (r:RefsH H vs Ls):RefsH H' vs Ls:=by
 induction r with
 | nil=>exact .nil
 | cons x _ ih=>exact .cons (e _ _ x) ih
theorem RefsH.get {H:Hp}{vs:List V}{Ls:List (List Int)} (r:RefsH H vs Ls):∀ (i:Nat) (v:V),vs[i]?=some v→∃ a,v=.ref a∧H a=some (.tup ((Ls.getD i []).map V.int)):=by
 induction r with
 | nil=>intro i v h;simp at h
 | cons x _ ih =>
  intro i v h
  cases i with
  | zero=>simp at h;subst h;exact⟨_,rfl,by simpa using x⟩
  | succ i=>simpa using ih i v (by simpa using h)
theorem j9h:∀ {xs:List V}{us:List Value},Vals xs us→∀ (i:Nat) (u:Value),us[i]?=some u→∃ x,xs[i]?=some x∧Vals [x] [u]
 | _,_,.nil,i,u,h=>by simp at h
 | _,_,.cons r1 r2,i,u,h=>by
  cases i with
  | zero=>simp at h;subst h;exact⟨_,rfl,.cons r1 .nil⟩
  | succ i =>
   obtain⟨x,e,r⟩:=j9h r2 i u (by simpa using h)
   exact⟨x,by simpa using e,r⟩
theorem jes {prog:Program}{w:World}{H:Hp}{h:Heap}{out:List Value}{Ls:List (List Int)} (r:RowsV prog w (fun a L=>H a=some (.tup (L.map V.int))) h out Ls):∃ vs,Vals vs out∧RefsH H vs Ls:=by
 induction r with
 | nil=>exact⟨_,.nil,.nil⟩
 | @cons a L vs Ls x y _ ih =>
  obtain⟨us,e1,e2⟩:=ih
  exact⟨.ref a :: us,.cons rfl e1,.cons y e2⟩
theorem j3o:∀ {Ls:List (List Int)},Ls.Nodup→Ls.Pairwise (fun a b=>¬ b < a)→Ls.Pairwise (· < ·)
 | [],_,_=>.nil
 | L :: Ls,n,p=>by
  obtain⟨n1,n2⟩:=List.nodup_cons.mp n
  obtain⟨p1,p2⟩:=List.pairwise_cons.mp p
  refine List.pairwise_cons.mpr ⟨fun M hM=>?_,j3o n2 p2⟩
  refine Classical.byContradiction fun q=>n1 ?_
  rw[List.le_antisymm (List.not_lt.mp (p1 M hM)) (List.not_lt.mp q)]
  exact hM
section
variable {X:Cx}
def j71 (K:PySem.W.Frag):List V→Hp→VK→Prop:=fun xs H Q=>∃ (p:Addr) (vs:List V) (Ls:List (List Int)),xs=[.ref p]∧SqL K H p vs∧RefsH H vs Ls∧vs.length≤60∧(∀ L∈Ls,L≠[])∧∀ l vs' Ls',H l=none→RefsH H vs' Ls'→Ls'.Pairwise (· < ·)→(∀ L,L∈Ls'↔L∈Ls)→Ls'.length≤vs.length→Q (.ref l) (upd H l (.lst vs'))
theorem j7o {k:Nat} (hr:Room k X.A) {a:Expr}{ta:TA}{p p' pos pos':Pos} (hc:X.calm=true) (hg:Gl X "sorted") (hm:X.mg "sorted"=none) (hg2:Gl X "set") (hm2:X.mg "set"=none) (ha:PA X [a] ta) (hs:starEach [a] X.env=[(false,eval a X.env)]:=by rfl)
  (ht:starEach [.Call (.Name "set" p') [a] [] pos'] X.env=[(false,eval (.Call (.Name "set" p') [a] [] pos') X.env)]:=by rfl) :
  PE X (.Call (.Name "sorted" p) [.Call (.Name "set" p') [a] [] pos'] [] pos) (tCB (j71 X.K) ta):=by
 intro pins s σ H Q I h
 refine wpAny_Call_Name_kw (j25 I hg hm PyProof.Rows.boot_sorted (PyProof.Rows.callWith_builtin1 ?_ ht rfl) (by decide) (by decide))
 rw[ht]
 show wpAny _ _ (spliced ((false,eval (.Call (.Name "set" p') [a] [] pos') X.env) :: backTo pos [])) _ _ s
 refine Calls.spliced_cons (wpAny_Call_Name_kw (j25 I hg2 hm2 boot_set (PyProof.Rows.callWith_type1 (thn (ha pos' pins s σ H _ I h) fun us s1 ⟨vs,H1,I1,r1,q1⟩=>?_) hs rfl) (by decide) (by decide)))
 obtain⟨p1,ws,Ls,e,hx,hrf,hz,hne,q⟩:=q1
 subst e
 obtain⟨u,rfl,ru⟩:=j4a r1
 cases ru
 obtain⟨its,ri,pl,_⟩:=I1.list hx
 have hl:=ri.length
 have hl2:=hrf.length
 have sz:its.toArray.size=its.length:=List.size_toArray ..
 have un:=hr.un
 refine jbh (Z:=fun a L=>H1 a=some (.tup (L.map V.int))) (Ls:=Ls) (I1.ok.hd hc) (by show X.A.units+1+1+1 < cLine;omega) pl.isList (by omega) (fun i v hv=>?_) (by omega) fun h' tk Ms hS hlen hmem hk=>Calls.spliced_nil ?_
 ·have hv':its[i]?=some v:=by simpa using hv
  obtain⟨x,ex,rx⟩:=j9h ri i v hv'
  obtain⟨b,rfl,hb⟩:=hrf.get i x ex
  cases rx with
  | cons r0 _ =>
   cases r0
   obtain⟨it2,r2,t2,_⟩:=I1.tuple (SqT.of (K:=X.K) hb)
   obtain⟨o,ho,hcl,n,hd⟩:=t2
   exact⟨b,rfl,⟨o,_,n,ho,hcl,hd,by simpa using j2y (j14 r2)⟩,hb⟩
 ·refine j9g (s:={ s1 with heap:=h',toks:=tk }) (I1.ok.hd hc) hS (by omega) (fun L hL=>hne L ((hmem L).mp hL)) (fun b o _ e=>hk b o (Heap.lt_size e) e) fun s' g' l out ex Ks hk2 hlt ho hrv hpm hpw=>?_
  obtain⟨vs',v1,v2⟩:=jes hrv
  obtain⟨_,_,_,_,_,_,_,_,nd⟩:=hS
  have kk:∀ b u,s1.heap.get? b=some u→g'.get? b=some u:=fun b u e=>hk2 b u (hk b u (Heap.lt_size e) e)
  have lv:=v2.length
  have lk:=hpm.length_eq
  refine⟨.ref l,upd H1 l (.lst vs'),I1.laid (t':=s'.toks) kk (Nat.le_of_lt hlt) (show ObjOk X.prog X.w _ _ _ (.lst vs') from⟨by rw[sizeLine_eq];omega,out,ex,v1,ho⟩),rfl,q l vs' Ks (I1.hok.fresh (Nat.le_of_lt hlt)) v2 (j3o (hpm.nodup_iff.mpr nd) hpw) (fun L=>by rw[hpm.mem_iff,hmem]) (by omega)⟩
theorem j7p {K:PySem.W.Frag}{H:Hp}{Q:VK}{p:Addr}{vs:List V}{Ls:List (List Int)} (h:H p=some (.lst vs)) (hr:RefsH H vs Ls) (hn:vs.length≤60) (hne:∀ L∈Ls,L≠[]) (q:∀ l H' vs' Ls',H l=none→H' l=some (.lst vs')→Ext H H'→RefsH H' vs' Ls'→Ls'.Pairwise (· < ·)→(∀ L,L∈Ls'↔L∈Ls)→Ls'.length≤vs.length→Q (.ref l) H'):j71 K [.ref p] H Q :=
 ⟨p,vs,Ls,rfl,SqL.of h,hr,hn,hne,fun l vs' Ls' nl r' pw mm ll=>q l _ vs' Ls' nl j04 (j0g nl) (r'.mono (j0g nl)) pw mm ll⟩
end
end L2
set_option Elab.async false
set_option linter.all false
set_option maxRecDepth 100000
set_option maxHeartbeats 4000000
namespace L2
open PySem PySem.Spec PyProof.Rows PySem.W
theorem j9i:∀ xs ys:List Int,HT.lexLt xs ys=decide (xs < ys)
 | [],[]=>by decide
 | [],y :: ys=>by
  show true=_
  rw[decide_eq_true (List.nil_lt_cons y ys)]
 | x :: xs,[]=>by
  show false=_
  rw[decide_eq_false (List.not_lt_nil _)]
 | x :: xs,y :: ys=>by
  unfold HT.lexLt
  have:=j9i xs ys
  by_cases c:x=y
  ·subst c
   rw[if_pos rfl,this]
   exact decide_eq_decide.mpr ⟨fun h=>List.cons_lt_cons_iff.mpr (.inr ⟨rfl,h⟩),fun h=>(List.cons_lt_cons_iff.mp h).elim (fun z=>absurd z (Int.lt_irrefl _)) fun z=>z.2⟩
  ·rw[if_neg c]
   exact decide_eq_decide.mpr ⟨fun h=>List.cons_lt_cons_iff.mpr (.inl h),fun h=>(List.cons_lt_cons_iff.mp h).elim id fun z=>absurd z.1 c⟩
def j2z (p q:List Int × Int):Prop:=p.1 < q.1∨(p.1=q.1∧p.2 < q.2)
instance (p q:List Int × Int):Decidable (j2z p q):=by unfold j2z;infer_instance
theorem jcp (a b:List Int):a < b∨a=b∨b < a:=by
 by_cases h:a < b
 ·exact .inl h
 ·by_cases h2:b < a
  ·exact .inr (.inr h2)
  ·exact .inr (.inl (List.le_antisymm (List.not_lt.mp h2) (List.not_lt.mp h)))
@[reducible] def pairOrd:KeyOrd where
 α:=List Int × Int
 blt p q:=decide (j2z p q)
 irrefl p:=by
  refine decide_eq_false fun h=>?_
  rcases h with h | h
  ·exact List.lt_irrefl _ h
  ·exact Int.lt_irrefl _ h.2
 trans p q r h1 h2:=by
  rw[decide_eq_true_eq] at *
  rcases h1 with h1 | ⟨e1,h1⟩ <;> rcases h2 with h2 | ⟨e2,h2⟩
  ·exact .inl (List.lt_trans h1 h2)
  ·exact .inl (by rw[← e2];exact h1)
  ·exact .inl (by rw[e1];exact h2)
  ·exact .inr ⟨e1.trans e2,by omega⟩
 negTrans p q r h:=by
  rw[decide_eq_true_eq,decide_eq_true_eq]
  rw[decide_eq_true_eq] at h
  rcases jcp p.1 q.1 with z | z | z
  ·exact .inl (.inl z)
  ·rcases h with h | ⟨e,h⟩
   ·exact .inr (.inl (by rw[← z];exact h))
   ·by_cases w:p.2 < q.2
    ·exact .inl (.inr ⟨z,w⟩)
    ·exact .inr (.inr ⟨z.symm.trans e,by omega⟩)
  ·rcases h with h | ⟨e,h⟩
   ·exact .inr (.inl (List.lt_trans z h))
   ·exact .inr (.inl (by rw[← e];exact z))
 total p q h1 h2:=by
  rw[decide_eq_false_iff_not] at h1 h2
  rcases jcp p.1 q.1 with z | z | z
  ·exact absurd (.inl z) h1
  ·refine Prod.ext z ?_
   rcases Int.lt_trichotomy p.2 q.2 with y | y | y
   ·exact absurd (.inr ⟨z,y⟩) h1
   ·exact y
   ·exact absurd (.inr ⟨z.symm,y⟩) h2
  ·exact absurd (.inl z) h2
inductive PairsAt (prog:Program) (w:World) (h:Heap):List Value→List (List Int × Int)→Prop
 | nil:PairsAt prog w h [] []
 | cons {c a:Addr}{L:List Int}{x:Int}{t:Tok}{vs:List Value}{Ks:List (List Int × Int)}:IsTup h c #[.ref a,.int x t]→IsTupleKey (intKind prog w) h L a→PairsAt prog w h vs Ks→PairsAt prog w h (.ref c :: vs) ((L,x) :: Ks)
section
variable {prog:Program}{w:World}{A:Around}{E:Value→Shared→Prop}{s:Shared}
theorem PairsAt.kept {h h':Heap} (e:∀ b o,o.cls=.type "tuple"→h.get? b=some o→h'.get? b=some o) {vs:List Value}{Ks:List (List Int × Int)} (r:PairsAt prog w h vs Ks):PairsAt prog w h' vs Ks:=by
 induction r with
 | nil=>exact .nil
 | cons x y _ ih =>
  obtain⟨o,ho,hc,hr⟩:=x
  exact .cons ⟨o,e _ _ hc ho,hc,hr⟩ (j43 y (e _)) ih
theorem PairsAt.get {h:Heap}{vs:List Value}{Ks:List (List Int × Int)} (r:PairsAt prog w h vs Ks):∀ i,i < vs.length→∃ c a t,vs.getD i .none=.ref c∧IsTup h c #[.ref a,.int (Ks.getD i ([],0)).2 t]∧IsTupleKey (intKind prog w) h (Ks.getD i ([],0)).1 a:=by
 induction r with
 | nil=>exact fun i hi=>by simp at hi
 | @cons c a L x t vs Ks x y _ ih =>
  intro i hi
  cases i with
  | zero=>exact⟨c,a,t,rfl,by simpa using x,by simpa using y⟩
  | succ i=>simpa using ih i (by simpa using hi)
theorem PairsAt.firsts {h:Heap}{vs:List Value}{Ks:List (List Int × Int)} (r:PairsAt prog w h vs Ks):∃ fs,KatTups h vs fs∧fs.length=vs.length∧∀ v∈fs,∃ a o,v=.ref a∧h.get? a=some o∧o.cls=.type "tuple":=by
 induction r with
 | nil=>exact⟨_,KatTups.nil,rfl,by simp⟩
 | @cons c a L x t vs Ks x y _ ih =>
  obtain⟨fs,k1,k2,k3⟩:=ih
  obtain⟨o,ho,hc,n,hd⟩:=x
  obtain⟨o2,items,n2,ho2,hc2,_⟩:=y
  refine⟨.ref a :: fs,KatTups.cons ho hc hd rfl k1,by simp[k2],fun v hv=>?_⟩
  skip;rcases List.mem_cons.mp hv with rfl | hv
  ·exact⟨a,o2,rfl,ho2,hc2⟩
  ·exact k3 v hv
theorem j9j {vs:List Value}{Ks:List (List Int × Int)} (hu:A.units < cLine) (r:PairsAt prog w s.heap vs Ks):Tells (O:=pairOrd) (fun i=>Ks.getD i ([],0)) vs.length (kas_ask prog w A (tuples' false) vs) s:=by
 intro i j hi hj C c
 obtain⟨x,a,t,ex,tx,kx⟩:=r.get i hi
 obtain⟨y,b,u,ey,ty,ky⟩:=r.get j hj
 have kx':=kx
 have ky':=ky
 obtain⟨oa,ia,na,ga,ca,da,ja⟩:=kx'
 obtain⟨ob,ib,nb,gb,cb,db,jb⟩:=ky'
 obtain⟨ox,gx,_,nx,dx⟩:=tx
 obtain⟨oy,gy,_,ny,dy⟩:=ty
 unfold kas_ask
 rw[ex,ey]
 refine kat_lt gx dx gy dy ?_
 show KatLex prog w A false (decide (2 < 2)) C [(.ref a,.ref b),(.int _ t,.int _ u)] 0 s
 have c':C (decide (j2z (Ks.getD i ([],0)) (Ks.getD j ([],0)))) s:=c
 generalize Ks.getD i ([],0)=p at c' ja kx
 generalize Ks.getD j ([],0)=q at c' jb ky
 obtain⟨L,m⟩:=p
 obtain⟨M,n⟩:=q
 dsimp only at *
 refine kat_cons (wpAny_eqBool_tuple hu kx ky ?_)
 by_cases e:L=M
 ·rw[decide_eq_true e]
  refine kat_yes (kat_cons (wpAny_eqBool_int ?_))
  by_cases f:m=n
  ·rw[show (m == n)=true from beq_iff_eq.mpr f]
   refine kat_yes (kat_nil ?_)
   rw[show decide (2 < 2)=decide (j2z (L,m) (M,n)) from (decide_eq_decide.mpr ⟨fun z=>by omega,fun z=>?_⟩)]
   ·exact c'
   ·rcases z with z | z
    ·exact absurd (by rw[← e] at z;exact z) (List.lt_irrefl _)
    ·have:=z.2;dsimp only at this;omega
  ·rw[show (m == n)=false from beq_eq_false_iff_ne.mpr f]
   refine kat_no (jhp ?_)
   rw[show decide (m < n)=decide (j2z (L,m) (M,n)) from (decide_eq_decide.mpr ⟨fun z=>.inr ⟨e,z⟩,fun z=>?_⟩)]
   ·exact c'
   ·rcases z with z | z
    ·exact absurd (by rw[← e] at z;exact z) (List.lt_irrefl _)
    ·exact z.2
 ·rw[decide_eq_false e]
  refine kat_no (kat_one _ _ (HT.lt_tupInts (ns:=L) (ms:=M) ⟨oa,ga,ca,na,da⟩ ⟨ob,gb,cb,nb,db⟩ (j2c ja) (j2c jb) hu ?_))
  show C _ s
  rw[j9i,show decide (L < M)=decide (j2z (L,m) (M,n)) from (decide_eq_decide.mpr ⟨fun z=>.inl z,fun z=>z.elim id fun y=>absurd y.1 e⟩)]
  exact c'
theorem j9k {a:Addr}{vs:List Value}{n:Nat}{Ks:List (List Int × Int)}{P:PySem.Fin→Shared→Prop} (hu:A.units < cLine) (ho:s.heap.get? a=some (seqObj "list" vs.toArray n)) (h64:vs.length < 64) (hR:PairsAt prog w s.heap vs Ks)
  (h:∀ p:Array Nat,OkP vs.length p→Asc (O:=pairOrd) (fun i=>Ks.getD i ([],0)) p vs.length→P (.done (.ret .none)) { s with heap:=sortedHeap s.heap a vs (p.toList.map fun i=>vs.getD i .none).toArray }) :
  (wpAny (model prog w) A (Builtin.«list.sort» ⟨[.ref a],[]⟩) P E s):=by
 have kt:∀ h':Heap,(∀ b o,b≠a→s.heap.get? b=some o→h'.get? b=some o)→∀ b o,o.cls=.type "tuple"→s.heap.get? b=some o→h'.get? b=some o:=fun h' e b o c q=>e b o (fun z=>by
  subst z
  rw[ho] at q
  cases q
  exact absurd (show Value.type "list"=Value.type "tuple" from c) (by decide)) q
 refine j99 (κ:=tuples' false) (O:=pairOrd) (k:=fun i=>Ks.getD i ([],0)) ho h64 (fun h2 h' e Q q=>?_) (fun h' e=>j9j (s:={ s with heap:=h' }) hu (hR.kept (kt h' e))) h
 obtain⟨fs,k1,k2,k3⟩:=PairsAt.firsts (hR.kept (kt h' e))
 refine kat_kind (s:={ s with heap:=h' }) (T:=.type "tuple") k1 (by omega) (fun v hv=>?_) rfl q
 obtain⟨b,o,rfl,hb,hc⟩:=k3 v hv
 rw[← hc]
 exact (Looks.ld hb).andThen .now
end
end L2
set_option Elab.async false
set_option linter.all false
set_option maxRecDepth 100000
set_option maxHeartbeats 4000000
namespace L2
open PySem PySem.Spec PyProof.Rows PySem.W
inductive PairsH (H:Hp):List V→List (List Int × Int)→Prop
 | nil:PairsH H [] []
 | cons {c a:Addr}{L:List Int}{x:Int}{vs:List V}{Ks:List (List Int × Int)}:H c=some (.tup [.ref a,.int x])→H a=some (.tup (L.map V.int))→PairsH H vs Ks→PairsH H (.ref c :: vs) ((L,x) :: Ks)
theorem PairsH.length {H:Hp}{vs:List V}{Ks:List (List Int × Int)} (r:PairsH H vs Ks):vs.length=Ks.length:=by
 induction r with
 | nil=>rfl
 | cons _ _ _ ih=>simp[ih]
theorem PairsH.mono {H H':Hp} (e:Ext H H') {vs:List V}{Ks:List (List Int × Int)} (r:PairsH H vs Ks):PairsH H' vs Ks:=by
 induction r with
 | nil=>exact .nil
 | cons x y _ ih=>exact .cons (e _ _ x) (e _ _ y) ih
theorem PairsH.pick {H:Hp}{vs:List V}{Ks:List (List Int × Int)} (r:PairsH H vs Ks):∀ (l:List Nat),(∀ i∈l,i < vs.length)→PairsH H (l.map fun i=>vs.getD i .non) (l.map fun i=>Ks.getD i ([],0))
 | [],_=>.nil
 | i :: l,hl=>by
  have one:∀ {vs:List V}{Ks:List (List Int × Int)} (i:Nat),PairsH H vs Ks→i < vs.length→∃ c a,vs.getD i .non=.ref c∧H c=some (.tup [.ref a,.int (Ks.getD i ([],0)).2])∧H a=some (.tup ((Ks.getD i ([],0)).1.map V.int)):=by
   intro vs Ks i r
   induction r generalizing i with
   | nil=>exact fun hi=>by simp at hi
   | cons x y _ ih =>
    intro hi
    cases i with
    | zero=>exact⟨_,_,rfl,by simpa using x,by simpa using y⟩
    | succ i=>simpa using ih i (by simpa using hi)
  obtain⟨c,a,e1,e2,e3⟩:=one i r (hl i List.mem_cons_self)
  rw[List.map_cons,List.map_cons,e1]
  exact .cons e2 e3 (PairsH.pick r l fun j hj=>hl j (List.mem_cons_of_mem _ hj))
theorem j72:∀ {vs:List V}{us:List Value},Vals vs us→∀ (l:List Nat),(∀ i∈l,i < vs.length)→Vals (l.map fun i=>vs.getD i .non) (l.map fun i=>us.getD i .none)
 | vs,us,r,[],_=>.nil
 | vs,us,r,i :: l,hl=>by
  have hi:=hl i List.mem_cons_self
  have hlen:=r.length
  obtain⟨x,ex,rx⟩:=j9h r i us[i] (List.getElem?_eq_getElem (by omega))
  rw[List.map_cons,List.map_cons,List.getD_eq_getElem?_getD,ex,List.getD_eq_getElem?_getD,List.getElem?_eq_getElem (by omega)]
  cases rx with
  | cons r0 _=>exact .cons r0 (j72 r l fun j hj=>hl j (List.mem_cons_of_mem _ hj))
section
variable {X:Cx}
theorem jet {pins:List (Addr × Obj)}{σ:St}{H:Hp}{s:Shared} (I:Inv X pins σ H s) {vs:List V}{Ks:List (List Int × Int)} (r:PairsH H vs Ks):∀ {us:List Value},Vals vs us→PairsAt X.prog X.w s.heap us Ks:=by
 induction r with
 | nil=>intro us v;cases v;exact .nil
 | @cons c a L x vs Ks hc ha _ ih =>
  intro us v
  cases v with
  | cons v1 v2 =>
   cases v1
   obtain⟨i1,r1,t1,_⟩:=I.tuple (SqT.of (K:=X.K) hc)
   obtain⟨u1,u2,rfl,w1,w2⟩:=jfi r1
   cases w1
   obtain⟨t,rfl⟩:=w2
   obtain⟨i2,r2,t2,_⟩:=I.tuple (SqT.of (K:=X.K) ha)
   obtain⟨o,ho,hcl,n,hd⟩:=t2
   exact .cons t1 ⟨o,_,n,ho,hcl,hd,by simpa using j2y (j14 r2)⟩ (ih v2)
def jeu (K:PySem.W.Frag):List V→Hp→VK→Prop:=fun xs H Q=>∃ (p:Addr) (vs:List V) (Ks:List (List Int × Int)),xs=[.ref p]∧SqL K H p vs∧PairsH H vs Ks∧vs.length < 64∧∀ l vs' Ks',H l=none→PairsH H vs' Ks'→Ks'.Perm Ks→Ks'.Pairwise (fun a b=>¬ j2z b a)→Q (.ref l) (upd H l (.lst vs'))
theorem cSortP {k:Nat} (hr:Room k X.A):CallR X (.builtin "sorted") (jeu X.K):=by
 intro pins s σ H xs us Q I r h
 obtain⟨p,vs,Ks,rfl,hq,hP,h64,q⟩:=h
 obtain⟨u,rfl,rx⟩:=j4a r
 cases rx
 obtain⟨its,ri,pl,hz⟩:=I.list hq
 have hlen:=ri.length
 have un:=hr.un
 have pa:=jet I hP ri
 refine Calls.call_function_entry kind_sorted plain_sorted entry_sorted (args_sorted1 _) ?_;unfold Builtin.«sorted»
 refine wpAny_bind (m:=checkCount "sorted" 1 1 _) (wpAny_pure (wpAny_bind (collect_list pl.isList (wpAny_bind (wpAny_newList ?_ (by rw[sizeLine_eq];omega))) (by rw[sizeLine_eq];omega))))
 have n1:((s.heap.push (seqObj "list" #[] 0)).update s.heap.objs.size (Obj.mapSeq (·++its.toArray))).objs.size=s.heap.objs.size+1:=by rw[Heap.size_update,size_push']
 have o1:(((s.heap.push (seqObj "list" #[] 0)).update s.heap.objs.size (Obj.mapSeq (·++its.toArray))).push (seqObj "list" its.toArray 0)).get? (s.heap.objs.size+1)=some (seqObj "list" its.toArray 0):=by rw[← n1];exact Heap.get?_push_size _ rfl
 have kp:∀ b o,s.heap.get? b=some o→(((s.heap.push (seqObj "list" #[] 0)).update s.heap.objs.size (Obj.mapSeq (·++its.toArray))).push (seqObj "list" its.toArray 0)).get? b=some o :=
  fun b o e=>Heap.get?_push_of_some _ ((Heap.get?_update_other _ _ (Nat.ne_of_gt (Heap.lt_size e))).trans (Heap.get?_push_of_some _ e))
 show wpAny _ _ _ _ _ { s with heap:=((s.heap.push (seqObj "list" #[] 0)).update s.heap.objs.size (Obj.mapSeq (·++its.toArray))).push (seqObj "list" its.toArray 0) };rw[n1]
 refine wpAny_bind (wpAny_holding (wpAny_call_entry slot_list_sort ⟨_,o1,rfl⟩ entry_list_sort (j9k (s:={ s with heap:=((s.heap.push (seqObj "list" #[] 0)).update s.heap.objs.size (Obj.mapSeq (·++its.toArray))).push (seqObj "list" its.toArray 0) }) (by show X.A.units+1+1 < cLine;omega) o1 (by omega) (pa.kept fun b o _ e=>kp b o e) fun pp ok as=>⟨_,rfl,wpAny_pure ⟨_,rfl,?_⟩⟩) (args_list_sort _)))
 obtain⟨e,he⟩:=sortedHeap_at (out:=(pp.toList.map fun i=>its.getD i .none).toArray) o1
 have all:∀ i∈pp.toList,i < vs.length:=fun i hi=>by have:=List.mem_range.mp (ok.mem_iff.mp hi);omega
 have kl:=hP.length
 have pm:(pp.toList.map fun i=>Ks.getD i ([],0)).Perm Ks:=by
  refine (ok.map _).trans ?_
  have:(List.range its.length).map (fun i=>Ks.getD i ([],0))=Ks:=by
   rw[show its.length=Ks.length by omega]
   refine List.ext_getElem? fun i=>?_
   by_cases hi:i < Ks.length
   ·simp[hi]
   ·simp[hi]
  rw[this]
 have pw:(pp.toList.map fun i=>Ks.getD i ([],0)).Pairwise fun a b=>¬ j2z b a:=by
  rw[List.pairwise_map,List.pairwise_iff_getElem]
  intro i j hi hj hij
  rw[Array.length_toList] at hi hj
  have hs:=ok.size
  have:=as i j (by omega) (by omega)
  unfold kAt at this
  rw[Array.getElem?_eq_getElem hi,Array.getElem?_eq_getElem hj] at this
  have q:decide (j2z (Ks.getD pp[j] ([],0)) (Ks.getD pp[i] ([],0)))=false:=this
  simpa using q
 have kk:∀ b u,s.heap.get? b=some u→(sortedHeap (((s.heap.push (seqObj "list" #[] 0)).update s.heap.objs.size (Obj.mapSeq (·++its.toArray))).push (seqObj "list" its.toArray 0)) (s.heap.objs.size+1) its (pp.toList.map fun i=>its.getD i .none).toArray).get? b=some u:=fun b u eb=>by
  have lb:=Heap.lt_size eb
  refine (sortedHeap_old (Nat.ne_of_lt (Nat.lt_succ_of_lt lb)) ?_).trans (kp b u eb)
  rw[Heap.size_push,n1]
  exact Nat.lt_succ_of_lt (Nat.lt_succ_of_lt lb)
 refine⟨.ref (s.heap.objs.size+1),_,I.laid (t':=s.toks) kk (Nat.le_succ _) (show ObjOk X.prog X.w _ _ _ (.lst (pp.toList.map fun i=>vs.getD i .non)) from⟨by rw[List.length_map,Array.length_toList,ok.size,sizeLine_eq];omega,_,e,j72 ri pp.toList all,he⟩),rfl,q _ _ _ (I.hok.fresh (Nat.le_succ _)) (hP.pick pp.toList all) pm pw⟩
theorem jhv {K:PySem.W.Frag}{H:Hp}{Q:VK}{p:Addr}{vs:List V}{Ks:List (List Int × Int)} (h:H p=some (.lst vs)) (hr:PairsH H vs Ks) (hn:vs.length < 64) (q:∀ l H' vs' Ks',H l=none→H' l=some (.lst vs')→Ext H H'→PairsH H' vs' Ks'→Ks'.Perm Ks→Ks'.Pairwise (fun a b=>¬ j2z b a)→Q (.ref l) H'):jeu K [.ref p] H Q :=
 ⟨p,vs,Ks,rfl,SqL.of h,hr,hn,fun l vs' Ks' nl r' pm pw=>q l _ vs' Ks' nl j04 (j0g nl) (r'.mono (j0g nl)) pm pw⟩
end
section
variable {X:Cx}
open Classical in
end
def noTb:HO→Bool
 | .tbl _=>false
 | _=>true
def ExtT (H H':Hp):Prop:=∀ b o,H b=some o→noTb o=true→H' b=some o
theorem ExtT.tr {H H1 H2:Hp} (a:ExtT H H1) (b:ExtT H1 H2):ExtT H H2:=fun x o h n=>b x o (a x o h n) n
theorem Ext.toT {H H':Hp} (e:Ext H H'):ExtT H H':=fun b o h _=>e b o h
def CodeH (H:Hp) (c:Addr) (qual:Str):Prop:=∃ (oc:Obj) (vs:Array Value) (t:Tok),H c=some (.frz oc (.own c))∧oc.data=.fields vs∧vs[1]?=some (.str qual t)
theorem CodeH.mono {H H':Hp}{c:Addr}{qual:Str} (e:ExtT H H') (h:CodeH H c qual):CodeH H' c qual:=by
 obtain⟨oc,vs,t,h1,h2⟩:=h
 exact⟨oc,vs,t,e _ _ h1 rfl,h2⟩
theorem CodeH.record {P:Program}{w:World}{H:Hp}{h:Heap}{c:Addr}{qual:Str} (ok:HOk P w H h) (k:CodeH H c qual):h.CodeRec (.ref c) qual:=by
 obtain⟨oc,vs,t,h1,h2,h3⟩:=k
 obtain⟨e,_⟩:=(show ObjOk P w H h c (.frz oc (.own c)) from ok c _ h1)
 exact⟨c,oc,vs,t,rfl,e,h2,h3⟩
def TabR (H:Hp) (P:Addr) (pos:Pos) (qual:Str):Prop:=H P=some (.tbl #[])∨∃ c,H P=some (.tbl #[rawInt pos.line,rawInt pos.col,.ref c])∧CodeH H c qual
theorem TabR.ext {H H':Hp}{P:Addr}{pos:Pos}{qual:Str} (e:Ext H H') (h:TabR H P pos qual):TabR H' P pos qual:=by
 rcases h with h | ⟨c,h,k⟩
 ·exact .inl (e _ _ h)
 ·exact .inr ⟨c,e _ _ h,k.mono (Ext.toT e)⟩
section
variable {X:Cx}{pins:List (Addr × Obj)}{σ:St}{H:Hp}{s:Shared}
theorem jbi {P c':Addr}{ps more:Array Value}{oc:Obj}{h':Heap}{t':Nat} (I:Inv X pins σ H s) (hP:H P=some (.tbl ps)) (hx:Heap.ExtBut P s.heap h') (hge:s.heap.objs.size≤c') (hoc:h'.get? c'=some oc)
  (htb:h'.get? P=some { cls:=.none,data:=.fields (ps++more) }) :
  Inv X pins σ (upd (upd H P (.tbl (ps++more))) c' (.frz oc (.own c'))) { s with heap:=h',toks:=t' }:=by
 have nc:H c'=none:=I.hok.fresh hge
 have ncP:P≠c':=j05 hP nc
 have keep:∀ b o,H b=some o→noTb o=true→upd (upd H P (.tbl (ps++more))) c' (.frz oc (.own c')) b=some o:=fun b o e n=>by
  rw[j08 (j05 e nc),j08 (fun z=>by rw[z,hP] at e;cases e;cases n)]
  exact e
 refine I.un (h':=h') (t':=t') ⟨fun b o e n _ _=>hx b o (fun z=>by rw[z,hP] at n;cases n) e,fun b o e n _ _=>⟨o.slots,hx b o (fun z=>by rw[z,hP] at n;cases n) e⟩,fun b o e n _=>?_,fun b o e _=>?_,
  fun b xs e=>keep b _ e rfl,fun b ob u e=>keep b _ e rfl,fun b qs e=>?_⟩ fun b u e=>?_
 ·rw[j08 (Nat.ne_of_lt (Nat.lt_of_lt_of_le (Heap.lt_size e) hge)),j08 (fun z=>by rw[z,hP] at n;cases n)]
  exact n
 ·by_cases hb:b=P
  ·exact⟨_,by rw[hb];exact htb⟩
  ·exact⟨o,hx b o hb e⟩
 ·by_cases hb:b=P
  ·subst hb
   rw[hP] at e
   cases e
   exact⟨more,by rw[j08 ncP,j04]⟩
  ·exact⟨#[],by rw[j08 (j05 e nc),j08 hb,e];simp⟩
 ·by_cases hc:b=c'
  ·subst hc
   rw[j04] at e
   cases e
   exact⟨hoc,oc,hoc⟩
  ·rw[j08 hc] at e
   by_cases hb:b=P
   ·subst hb
    rw[j04] at e
    cases e
    exact htb
   ·rw[j08 hb] at e
    refine (I.hok b u e).stay (fun d v hd q=>hx d v ?_ q) (fun d q=>keep d _ q rfl) fun d xs q=>keep d _ q rfl
    rcases hd with z | z
    ·rw[z];exact hb
    ·intro y
     rw[y,hP] at z
     cases z
end
def jjj (X:Cx) (pins:List (Addr × Obj)) (N:List Str) (qual:Str) (scope:Scope) (cl:List (Str × Addr)) (f c:Addr) (A:Around) (s:Shared) (H:Hp):Cx where
 prog:=X.prog
 w:=X.w
 K:=X.K
 mg:=X.mg
 base:=X.base
 A:=A.deeper (PySem.W.envX qual scope s.heap.objs.size f (.ref c) cl)
 N:=N
 s₀:=s
 H₀:=H
 env:=PySem.W.envX qual scope s.heap.objs.size f (.ref c) cl
 outer:=X.stack
 stack:=PySem.W.envX qual scope s.heap.objs.size f (.ref c) cl :: X.stack
 ex:=[]
 fn:=fun _=>false
 calm:=true
 pn:=X.pn++pins
 xe:=NoX
def lSt (v:V) (js:List Nat) (σ:St):St:=some v :: js.map (j7k σ)
structure LamOk (X:Cx) (scope:Scope) (cl:List (Str × Addr)) (x:Str) (fr:List Str) (js:List Nat):Prop where
 kind:scope.kind=.function
 co:scope.isCoroutine=false
 gen:scope.isGenerator=false
 nc:∀ y∈scope.names,y.2≠.cell
 par:scope.names.lookup x=some .local
 clos:j2k X.env.cells scope.names []=some cl
 frees:Frees X scope fr js
section
variable {X:Cx}{pins:List (Addr × Obj)}{σ:St}{H:Hp}{s:Shared}
theorem jbj {A:Around}{x qual:Str}{fr:List Str}{js:List Nat}{scope:Scope}{cl:List (Str × Addr)}{f c:Addr}{h':Heap}{tk:Nat}{v:V}{u:Value} (I:Inv X pins σ H s) (O:LamOk X scope cl x fr js) (hA:A.frames=some X.stack) (hh:A.handled=none) (r:RelV v u)
  (hn:h'.Ns s.heap.objs.size (fun y=>[(x,u)].reverse.lookup y)) (hk:∀ b o,s.heap.get? b=some o→h'.get? b=some o) :
  Inv (jjj X pins (x :: fr) qual scope cl f c A s H) [] (lSt v js σ) H { s with heap:=h',toks:=tk }:=by
 have sub:=j2s _ _ _ O.clos (fun _ _ q=>by simp at q)
 have noA:∀ b:Addr,b∉(jjj X pins (x :: fr) qual scope cl f c A s H).ex:=fun b z=>absurd (show b∈([]:List Addr) from z) (by simp)
 refine⟨⟨I.ok.mod,O.kind,rfl,rfl,Nat.le_refl _,fun y z d e1 e2=>I.ok.inj y z d (sub _ _ e1) (sub _ _ e2),fun y hy=>?_,(fun y d q=>Bool.noConfusion (show false=true from q)),fun _=>hh,Around.frames_deeper hA,.inr ⟨rfl,rfl⟩,fun b z=>absurd z (noA b),
  I.bs,Nat.le_trans I.ok.bsz I.sz,fun b _ _=>noA b,fun b z=>absurd z (noA b),I.stack,I.stkFree⟩,rfl,I.bare,Un.kept hk,⟨_,hn,fun i y w e1 e2 e3=>?_⟩,fun y d e=>?_,I.hok.fresh (Nat.le_refl _),fun y d e=>I.freeC y d (sub y d e),fun p hp=>?_,I.hok.kept hk,?_⟩
 ·have hy':scope.names.lookup y=some .cell∨scope.names.lookup y=some .free:=hy
  rcases hy' with hy' | hy'
  ·exact absurd rfl (O.nc _ (PySem.mem_of_lookup hy'))
  ·exact j29 _ _ _ O.clos y (.inr (PySem.mem_of_lookup hy'))
 ·cases i with
  | zero =>
   have e1':x=y:=by
    have z:(x :: fr)[0]?=some y:=e1
    simpa using z
   have e2':v=w:=by simpa[lSt] using e2
   subst e1' e2'
   exact⟨u,r,.inl ⟨O.par,by simp⟩⟩
  | succ i =>
   have e1':fr[i]?=some y:=by
    have z:(x :: fr)[i+1]?=some y:=e1
    simpa using z
   obtain⟨j,hj,nj,kj,lj⟩:=O.frees.get e1'
   have e2':j7k σ j=some w:=by
    unfold lSt at e2
    rw[List.getElem?_cons_succ,List.getElem?_map,hj] at e2
    exact Option.some.inj e2
   have e4:σ[j]?=some (some w):=by
    unfold j7k at e2'
    split at e2'
    ·rename_i o q;rw[q,e2']
    ·cases e2'
   obtain⟨m,hm,hl⟩:=I.loc
   obtain⟨u',ru,lk⟩:=hl j y w nj e4 (kj.elim (fun q=>.inr (.inl q)) fun q=>.inr (.inr q))
   refine⟨u',ru,.inr ⟨lj,?_⟩⟩
   rcases lk with⟨q,_⟩ | ⟨_,d,ed,id⟩
   ·rcases kj with k | k <;> (rw[q] at k;cases k)
   ·have lj':scope.names.lookup y=some .free:=by
     rcases lj with z | z
     ·exact absurd rfl (O.nc _ (PySem.mem_of_lookup z))
     ·exact z
    obtain⟨d',ed'⟩:=j29 _ _ _ O.clos y (.inr (PySem.mem_of_lookup lj'))
    have:=sub _ _ ed'
    rw[ed] at this
    cases this
    exact⟨d,ed',id.keeps hk⟩
 ·obtain⟨w,q⟩:=I.cell y d (sub y d e)
  exact⟨w,q.keeps hk⟩
 ·have hp':p∈X.pn++pins:=by
   rcases List.mem_append.mp hp with q | q
   ·exact q
   ·simp at q
  obtain⟨q1,q2,q3,q4,q5⟩:=I.pin p hp'
  refine⟨hk _ _ q1,q2,Nat.ne_of_lt (Heap.lt_size q1),fun z=>?_,q5⟩
  rcases List.mem_cons.mp (I.stkSub _ z) with y | y
  ·exact q3 y
  ·exact q4 y
 ·show (lSt v js σ).length=(x :: fr).length
  unfold lSt
  rw[List.length_cons,List.length_cons,List.length_map,O.frees.len]
theorem jev {A:Around}{E:Value→Shared→Prop}{k:Nat}{name x qual:Str}{fr:List Str}{js:List Nat}{params:Arguments}{body:Expr}{scope:Scope}{cl:List (Str × Addr)}{f c:Addr}{pm ctv:Value}{t:TE}{v:V}{u:Value}{Q:VK} (I:Inv X pins σ H s) (O:LamOk X scope cl x fr js)
  (hA:A.frames=some X.stack) (hr:Room (k+1) A) (hf:(f,PySem.W.kla_obj name qual params body scope cl pm c ctv)∈pins) (hc:CodeH H c qual) (r:RelV v u)
  (hbind:bindArgs (PySem.W.kla_fn name qual params body scope cl pm (.ref c) ctv) ⟨[u],[]⟩=pure [(x,u)])
  (hb:PE (jjj X pins (x :: fr) qual scope cl f c A s H) body t) (hq:t (lSt v js σ) H Q):wpAny (model X.prog X.w) A (call (.ref f) [u]) (EP X pins σ Q) E s:=by
 obtain⟨ho,_⟩:=I.pin _ (List.mem_append_right _ hf)
 refine wpAny_call (PySem.W.kla_callFunE hr.depth ho rfl O.co O.gen rfl (hc.record I.hok) ?_)
 rw[hbind]
 refine wpAny_pure (wpAny_newFunctionEnv O.nc (fun y hy=>by rw[List.mem_singleton.mp hy];exact O.par) (fun h₁ hns hsb=>⟨I.nolimit.fresh _ hsb,?_⟩) O.kind)
 skip;have hk₁:∀ b o,s.heap.get? b=some o→h₁.get? b=some o:=fun b o e=>hsb.extBut b o (Nat.ne_of_lt (Heap.lt_size e)) (Heap.get?_push_of_some _ e)
 have J:=jbj (A:=A) (qual:=qual) (f:=f) (c:=c) (tk:=s.toks+[(x,u)].length) I O hA hr.hd r hns hk₁
 show codeAny _ _ (.expr body (PySem.W.envX qual scope s.heap.objs.size f (.ref c) cl)) _ _
 refine PySem.W.kla_codeExpr (wpAny_mono (hb [] _ _ H Q J hq) (fun u' s' ⟨v',H',J',r',q'⟩=>?_) fun _ _ z=>False.elim z)
 have I':Inv X pins σ H' s':=I.call' (ch:=[]) J'.os J'.base J'.hok J'.bare fun b z=>absurd z (by simp)
 exact⟨v',H',I',r',q'⟩
end
def j2d (lt:Nat→Nat→Bool):Nat→Nat
 | 0=>0
 | j+1=>if lt (j+1) (j2d lt j)=true then j+1 else j2d lt j
section
variable {prog:Program}{w:World}{A:Around}{E:Value→Shared→Prop}{s:Shared}
theorem j30 {b:Bool}{it l:Addr}{k:Nat}{xs:Array Value}{x:Value}{Q:Option Value→Shared→Prop} (i0:ItA b s.heap it l k) (l0:SqA b s.heap l xs) (hx:xs[k]?=some x)
  (q:∀ h',ItA b h' it l (k+1)→Heap.SameBut it s.heap h'→Q (some x) { s with heap:=h' }):wpAny (model prog w) A (pyNext (.ref it)) Q E s:=by
 cases b
 ·exact wpAny_pyNext_list_item i0 l0 hx q
 ·exact wpAny_pyNext_tuple_item i0 l0 hx q
theorem j7q {b:Bool}{it l:Addr}{k:Nat}{xs:Array Value}{Q:Option Value→Shared→Prop} (hh:A.handled=none) (i0:ItA b s.heap it l k) (l0:SqA b s.heap l xs) (hx:xs[k]?=none)
  (q:∀ h',Heap.ExtBut it s.heap h'→Q none { s with heap:=h' }):wpAny (model prog w) A (pyNext (.ref it)) Q E s:=by
 cases b
 ·exact wpAny_pyNext_list_end hh i0 l0 hx q
 ·exact wpAny_pyNext_tuple_end hh i0 l0 hx q
end
section
variable {X:Cx}{pins:List (Addr × Obj)}{σ:St}{H:Hp}{s:Shared}
theorem Inv.drop1 {pins':List (Addr × Obj)}{a:Addr}{o:Obj}{h':Heap}{t':Nat} (I:Inv X pins σ H s) (ha:(a,o)∈pins) (hs:X.s₀.heap.objs.size≤a) (hk:∀ b u,b≠a→s.heap.get? b=some u→h'.get? b=some u) (hX:∀ p∈X.pn,p.1≠a)
  (hp:∀ p∈pins',p∈pins∧p.1≠a):Inv X pins' σ H { s with heap:=h',toks:=t' }:=by
 obtain⟨a1,a2,a3,a4,a5⟩:=I.pin _ (List.mem_append_right _ ha)
 have J0:Inv X [] σ H s:=I.pins_of fun p z=>by cases z
 have cl:∀ x c,X.env.cells.lookup x=some c→c≠a:=fun x c e z=>by
  obtain⟨v,ob,h1,h2⟩:=I.cell x c e
  rw[z] at h1
  have h3:s.heap.get? a=some o:=a1
  rw[h3] at h1
  cases h1
  exact a5 v h2
 have J1:Inv X [] σ H { s with heap:=h',toks:=t' }:=J0.turned hk a2 a3 (.inr hs) cl fun p z=>by
  rcases List.mem_append.mp z with z | z
  ·exact hX p z
  ·cases z
 refine J1.pins_of fun p z=>?_
 obtain⟨z1,z2⟩:=hp p z
 obtain⟨p1,p2,p3,p4,p5⟩:=I.pin p (List.mem_append_right _ z1)
 exact⟨hk _ _ z2 p1,p2,p3,p4,p5⟩
theorem Inv.repin {pins':List (Addr × Obj)}{a:Addr}{o o':Obj}{h':Heap}{t':Nat} (I:Inv X pins σ H s) (ha:(a,o)∈pins) (hs:X.s₀.heap.objs.size≤a) (hk:∀ b u,b≠a→s.heap.get? b=some u→h'.get? b=some u) (hn:h'.get? a=some o') (hd:∀ v,o'.data≠.cell v) (hX:∀ p∈X.pn,p.1≠a)
  (hp:∀ p∈pins',(p∈pins∧p.1≠a)∨p=(a,o')):Inv X pins' σ H { s with heap:=h',toks:=t' }:=by
 obtain⟨a1,a2,a3,a4,a5⟩:=I.pin _ (List.mem_append_right _ ha)
 have J1:Inv X [] σ H { s with heap:=h',toks:=t' }:=I.drop1 ha hs hk hX fun p z=>by cases z
 refine J1.pins_of fun p z=>?_
 rcases hp p z with⟨z1,z2⟩ | rfl
 ·obtain⟨p1,p2,p3,p4,p5⟩:=I.pin p (List.mem_append_right _ z1)
  exact⟨hk _ _ z2 p1,p2,p3,p4,p5⟩
 ·exact⟨hn,a2,a3,a4,hd⟩
theorem Inv.pin2 {h':Heap}{t':Nat}{a b:Addr}{o p:Obj} (I:Inv X pins σ H s) (hk:∀ d u,s.heap.get? d=some u→h'.get? d=some u) (ha:h'.get? a=some o) (hb:h'.get? b=some p) (la:s.heap.objs.size≤a) (lb:s.heap.objs.size≤b) (da:∀ v,o.data≠.cell v) (db:∀ v,p.data≠.cell v) :
  Inv X (pins++[(a,o),(b,p)]) σ H { s with heap:=h',toks:=t' }:=by
 have J:Inv X pins σ H { s with heap:=h',toks:=t' }:=I.kept hk
 refine J.pins_of fun q hq=>?_
 rcases List.mem_append.mp hq with z | z
 ·exact J.pin q (List.mem_append_right _ z)
 ·rcases List.mem_cons.mp z with rfl | z
  ·exact⟨ha,I.hok.fresh la,Nat.ne_of_gt (Nat.lt_of_lt_of_le I.lt la),I.nofs la,da⟩
  ·rw[List.mem_singleton.mp z]
   exact⟨hb,I.hok.fresh lb,Nat.ne_of_gt (Nat.lt_of_lt_of_le I.lt lb),I.nofs lb,db⟩
structure Keyed (X:Cx) (A:Around) (σ:St) (KR:Hp→V→Nat→Prop) (lt:Nat→Nat→Bool):Prop where
 ext:∀ {H H':Hp}{v:V}{i:Nat},Ext H H'→KR H v i→KR H' v i
 cmp:∀ {pins:List (Addr × Obj)}{H:Hp}{s:Shared}{v1 v2:V}{u1 u2:Value}{i j:Nat}{Q:Value→Shared→Prop}{E:Value→Shared→Prop},Inv X pins σ H s→KR H v1 i→RelV v1 u1→KR H v2 j→RelV v2 u2→Q (.bool (lt i j)) s →
  wpAny (model X.prog X.w) A (richCompare .Lt u1 u2) Q E s
structure Turns (X:Cx) (A:Around) (pins:List (Addr × Obj)) (σ:St) (KR:Hp→V→Nat→Prop) (G:Hp→Prop) (q l:Addr) (xs:List V) (tp:Bool):Prop where
 ext:∀ {H H':Hp},Ext H H'→G H→G H'
 src:∀ {H:Hp},G H→SqE X.K H l xs tp
 turn:∀ {ps:List (Addr × Obj)}{H:Hp}{s:Shared}{i:Nat}{x:V}{u:Value}{E:Value→Shared→Prop},(∀ p∈pins,p∈ps)→Inv X ps σ H s→G H→xs[i]?=some x→RelV x u →
  wpAny (model X.prog X.w) A (call (.ref q) [u]) (EP X ps σ fun kv H'=>KR H' kv i∧Ext H H') E s
variable {A:Around}{KR:Hp→V→Nat→Prop}{lt:Nat→Nat→Bool}{G:Hp→Prop}{l q It S:Addr}{xs:List V}{tp:Bool}{R:Result→Shared→Prop}
theorem jhw (hh:A.handled=none) (KY:Keyed X A.in1 σ KR lt) (T:Turns X A.in1 pins σ KR G q l xs tp) (sI:X.s₀.heap.objs.size≤It) (sS:X.s₀.heap.objs.size≤S) (hSI:S≠It) (pI:∀ p∈X.pn++pins,p.1≠It) (pS:∀ p∈X.pn++pins,p.1≠S)
  (hR:∀ {H:Hp}{s:Shared}{x:V}{u:Value},xs[j2d lt (xs.length-1)]?=some x→RelV x u→Inv X pins σ H s→G H→R (.ok (.ret u)) s) :
  ∀ (r j:Nat) {s:Shared}{H:Hp}{oI:Obj}{c:Nat}{vb kb:Value}{xb kv:V},xs.length-(j+1)=r→j+1≤xs.length→Inv X (pins++[(It,oI),(S,seqObj "list" #[vb,kb] c)]) σ H s→ItA tp s.heap It l (j+1)→xs[j2d lt j]?=some xb→RelV xb vb→RelV kv kb→KR H kv (j2d lt j)→G H →
   codeAny (model X.prog X.w) A (.builtin "min.loop" ⟨[.ref It,.ref q,.ref S],[]⟩) R s:=by
 skip;have hname:(toString "min"++toString ".loop":String)="min.loop":=by decide
 intro r
 induction r with
 | zero =>
  intro j s H oI c vb kb xb kv hr hj I hit hxb rxb rkv hkr hG
  have mI:(It,oI)∈pins++[(It,oI),(S,seqObj "list" #[vb,kb] c)]:=List.mem_append_right _ (.head _)
  have gS:=(I.pin (S,seqObj "list" #[vb,kb] c) (List.mem_append_right _ (List.mem_append_right _ (.tail _ (.head _))))).1
  obtain⟨its,rv,sq,_⟩:=I.sqe (T.src hG)
  have hl:=rv.length
  skip;refine codeAny_builtin PySem.F.entry_min_loop ?_
  skip;rw[Around.under_plainId PySem.F.plain_min_loop _]
  skip;show wpAny _ A.in1 (seqItems? (.ref S) >>= _) _ _ _
  skip;refine wpAny_bind (wpAny_seqItems gS rfl ?_)
  skip;show wpAny _ A.in1 (tryCatch (pyNext (.ref It)) _ >>= _) _ _ _
  refine wpAny_bind (wpAny_tryCatch (j7q hh hit sq (Array.getElem?_eq_none (by rw[List.size_toArray];omega)) fun h' hx=>?_))
  have I1:Inv X (pins++[(S,seqObj "list" #[vb,kb] c)]) σ H { s with heap:=h' }:=I.drop1 mI sI (fun b u n e=>hx b u n e) (fun p hp=>pI p (List.mem_append_left _ hp)) fun p hp=>by
   skip;rcases List.mem_append.mp hp with z | z
   ·exact⟨List.mem_append_left _ z,pI p (List.mem_append_right _ z)⟩
   ·rw[List.mem_singleton.mp z];exact⟨List.mem_append_right _ (.tail _ (.head _)),hSI⟩
  have gS1:h'.get? S=some (seqObj "list" #[vb,kb] c):=hx S _ hSI gS
  skip;have s1:=Heap.SameBut.update h' S (Obj.mapSeq fun _=>(#[]:Array Value))
  skip;show wpAny _ A.in1 (updateSeq S (fun _=>#[]) >>= _) _ _ _
  skip;refine wpAny_bind ?_
  refine wpAny_updateSeq gS1 rfl (wpAny_bind (wpAny_letGo (wpAny_pure ?_)))
  refine hR (x:=xb) (H:=H) (by rw[show xs.length-1=j by omega];exact hxb) rxb (I1.drop1 (List.mem_append_right _ (.head _)) sS (fun b u n e=>(s1.2 b n).trans e) (fun p hp=>pS p (List.mem_append_left _ hp)) fun p hp=>⟨List.mem_append_left _ hp,pS p (List.mem_append_right _ hp)⟩) hG
 | succ r ih =>
  intro j s H oI c vb kb xb kv hr hj I hit hxb rxb rkv hkr hG
  have mI:(It,oI)∈pins++[(It,oI),(S,seqObj "list" #[vb,kb] c)]:=List.mem_append_right _ (.head _)
  have gS:=(I.pin (S,seqObj "list" #[vb,kb] c) (List.mem_append_right _ (List.mem_append_right _ (.tail _ (.head _))))).1
  obtain⟨its,rv,sq,_⟩:=I.sqe (T.src hG)
  have hl:=rv.length
  have hx:xs[j+1]?=some (xs[j+1]'(by omega)):=List.getElem?_eq_getElem _
  obtain⟨u,eu,ru⟩:=rv.get hx
  skip;refine codeAny_builtin PySem.F.entry_min_loop ?_
  skip;rw[Around.under_plainId PySem.F.plain_min_loop _]
  skip;show wpAny _ A.in1 (seqItems? (.ref S) >>= _) _ _ _
  skip;refine wpAny_bind (wpAny_seqItems gS rfl ?_)
  skip;show wpAny _ A.in1 (tryCatch (pyNext (.ref It)) _ >>= _) _ _ _
  refine wpAny_bind (wpAny_tryCatch (j30 hit sq (by simpa using eu) fun h' hit' sb=>?_))
  obtain⟨oI',goI',dI'⟩:=hit'.ex
  have I1:Inv X (pins++[(It,oI'),(S,seqObj "list" #[vb,kb] c)]) σ H { s with heap:=h' }:=I.repin mI sI (fun b u n e=>(sb.2 b n).trans e) goI' dI' (fun p hp=>pI p (List.mem_append_left _ hp)) fun p hp=>by
   skip;rcases List.mem_append.mp hp with z | z
   ·exact .inl ⟨List.mem_append_left _ z,pI p (List.mem_append_right _ z)⟩
   ·rcases List.mem_cons.mp z with rfl | z
    ·exact .inr rfl
    ·rw[List.mem_singleton.mp z];exact .inl ⟨List.mem_append_right _ (.tail _ (.head _)),hSI⟩
  show wpAny _ A.in1 (tryCatch (holding [u] (call (.ref q) [u])) _ >>= _) _ _ _
  refine wpAny_bind (wpAny_tryCatch (wpAny_holding (wpAny_mono (T.turn (fun p hp=>List.mem_append_left _ hp) I1 hG hx ru) (fun ku s2 ⟨kv2,H2,I2,rk2,hk2,e2⟩=>?_) fun _ _ hF=>hF)))
  have gI2:=(I2.pin (It,oI') (List.mem_append_right _ (List.mem_append_right _ (.head _)))).1
  have gS2:=(I2.pin (S,seqObj "list" #[vb,kb] c) (List.mem_append_right _ (List.mem_append_right _ (.tail _ (.head _))))).1
  have hit2:ItA tp s2.heap It l (j+1+1):=hit'.at fun o e=>by rw[goI'] at e;cases e;exact gI2
  show wpAny _ A.in1 (tryCatch (holding [u,ku] (richCompare .Lt ku kb >>= _)) _ >>= _) _ _ _
  refine wpAny_bind (wpAny_tryCatch (wpAny_holding (wpAny_bind (KY.cmp I2 hk2 rk2 (KY.ext e2 hkr) rkv ?_))))
  skip;refine wpAny_bind (wpAny_holding (wpAny_truthy_bool ?_))
  skip;refine wpAny_bind (wpAny_letGo (wpAny_pure ?_))
  by_cases hb':lt (j+1) (j2d lt j)=true
  ·have eb:j2d lt (j+1)=j+1:=by unfold j2d;rw[if_pos hb']
   have s1:=Heap.SameBut.update s2.heap S (Obj.mapSeq fun _=>#[u,ku])
   obtain⟨c2,hc2⟩:∃ c2,(s2.heap.update S (Obj.mapSeq fun _=>#[u,ku])).get? S=some (seqObj "list" #[u,ku] c2):=⟨_,get?_update_seq gS2 fun _=>#[u,ku]⟩
   simp only[hb',if_true]
   skip;refine wpAny_bind ?_
   refine wpAny_updateSeq gS2 rfl (wpAny_bind (wpAny_letGo ?_))
   rw[hname]
   have I3:Inv X (pins++[(It,oI'),(S,seqObj "list" #[u,ku] c2)]) σ H2 { s2 with heap:=s2.heap.update S (Obj.mapSeq fun _=>#[u,ku]) }:=I2.repin (List.mem_append_right _ (.tail _ (.head _))) sS (fun b u n e=>(s1.2 b n).trans e) hc2 (fun v z=>by cases z) (fun p hp=>pS p (List.mem_append_left _ hp)) fun p hp=>by
    skip;rcases List.mem_append.mp hp with z | z
    ·exact .inl ⟨List.mem_append_left _ z,pS p (List.mem_append_right _ z)⟩
    ·rcases List.mem_cons.mp z with rfl | z
     ·exact .inl ⟨List.mem_append_right _ (.head _),hSI.symm⟩
     ·exact .inr (List.mem_singleton.mp z)
   refine wpAny_pure ⟨plainId_quiet PySem.F.plain_min_loop _,ih (j+1) (by omega) (by omega) I3 (hit2.at fun o e=>(s1.2 It hSI.symm).trans e) (by rw[eb];exact hx) ru rk2 (by rw[eb];exact hk2) (T.ext e2 hG)⟩
  ·have eb:j2d lt (j+1)=j2d lt j:=by show (if _ then _ else _)=_;rw[if_neg hb']
   have hb2:lt (j+1) (j2d lt j)=false:=by simpa using hb'
   simp only[hb2,Bool.false_eq_true,if_false]
   skip;refine wpAny_bind (wpAny_letGo ?_)
   rw[hname]
   refine wpAny_pure ⟨plainId_quiet PySem.F.plain_min_loop _,ih (j+1) (by omega) (by omega) I2 hit2 (by rw[eb];exact hxb) rxb rkv (by rw[eb];exact KY.ext e2 hkr) (T.ext e2 hG)⟩
theorem mk_min {E:Value→Shared→Prop}{Q:Value→Shared→Prop} (hh:A.handled=none) (I:Inv X pins σ H s) (hG:G H) (KY:Keyed X A.in1 σ KR lt) (T:Turns X A.in1 pins σ KR G q l xs tp) (hne:0 < xs.length)
  (hQ:∀ {H:Hp}{s:Shared}{x:V}{u:Value},xs[j2d lt (xs.length-1)]?=some x→RelV x u→Inv X pins σ H s→G H→Q u s) :
  wpAny (model X.prog X.w) A (call (.builtin "min") [.ref l] [(Str.ofString "key",.ref q)]) Q E s:=by
 skip;have hname:(toString "min"++toString ".loop":String)="min.loop":=by decide
 obtain⟨its,rv,sq,_⟩:=I.sqe (T.src hG)
 have hl:=rv.length
 skip;refine kmk_tree PySem.F.kind_min PySem.F.plain_min PySem.F.entry_min (kmk_min_key _ _) ?_
 skip;show wpAny _ A.in1 (Builtin.Builtins.bindParams "min" ["key","default"] 0 ⟨[],[(Str.ofString "key",.ref q)]⟩ >>= _) _ _ s
 skip;refine wpAny_bind (wpAny_of_eq (show Builtin.Builtins.bindParams "min" ["key","default"] 0 ⟨[],[(Str.ofString "key",.ref q)]⟩=pure [some (.ref q),none] from rfl) ?_)
 refine wpAny_bind (wpAny_pure ?_)
 refine wpAny_bind (jl9 sq ?_)
 skip;refine wpAny_bind (wpAny_newList ?_ (Nat.zero_le _))
 rw[hname]
 have hS:(s.heap.push (itO tp l)).objs.size=s.heap.objs.size+1:=size_push' ..
 have gI:((s.heap.push (itO tp l)).push (seqObj "list" #[] 0)).get? s.heap.objs.size=some (itO tp l):=Heap.get?_push_of_some _ (Heap.get?_push_size _ rfl)
 have gS:((s.heap.push (itO tp l)).push (seqObj "list" #[] 0)).get? (s.heap.push (itO tp l)).objs.size=some (seqObj "list" #[] 0):=Heap.get?_push_size _ rfl
 have I1:Inv X (pins++[(s.heap.objs.size,itO tp l),((s.heap.push (itO tp l)).objs.size,seqObj "list" #[] 0)]) σ H { s with heap:=(s.heap.push (itO tp l)).push (seqObj "list" #[] 0) } :=
  I.pin2 (fun d u e=>Heap.get?_push_of_some _ (Heap.get?_push_of_some _ e)) gI gS (Nat.le_refl _) (by rw[hS];omega) (fun v z=>by cases z) fun v z=>by cases z
 have hit1:ItA tp ((s.heap.push (itO tp l)).push (seqObj "list" #[] 0)) s.heap.objs.size l 0:=jdu gI
 have hSI:(s.heap.push (itO tp l)).objs.size≠s.heap.objs.size:=by rw[hS];omega
 have sI:X.s₀.heap.objs.size≤s.heap.objs.size:=I.sz
 have sS:X.s₀.heap.objs.size≤(s.heap.push (itO tp l)).objs.size:=by rw[hS];omega
 have pI:∀ p∈X.pn++pins,p.1≠s.heap.objs.size:=fun p hp=>Nat.ne_of_lt (Heap.lt_size (I.pin p hp).1)
 have pS:∀ p∈X.pn++pins,p.1≠(s.heap.push (itO tp l)).objs.size:=fun p hp=>by rw[hS];exact Nat.ne_of_lt (Nat.lt_succ_of_lt (Heap.lt_size (I.pin p hp).1))
 skip;refine wpAny_pure ⟨plainId_quiet PySem.F.plain_min_loop _,?_⟩
 generalize s.heap.objs.size=It at *
 generalize (s.heap.push (itO tp l)).objs.size=S at *
 generalize (s.heap.push (itO tp l)).push (seqObj "list" #[] 0)=h2 at *
 have hx:xs[0]?=some (xs[0]'hne):=List.getElem?_eq_getElem _
 obtain⟨its2,rv2,sq2,_⟩:=I1.sqe (T.src hG)
 obtain⟨u,eu,ru⟩:=rv2.get hx
 skip;refine codeAny_builtin PySem.F.entry_min_loop ?_
 skip;rw[Around.under_plainId PySem.F.plain_min_loop _]
 skip;show wpAny _ A.in1 (seqItems? (.ref _) >>= _) _ _ _
 skip;refine wpAny_bind (wpAny_seqItems gS rfl ?_)
 skip;show wpAny _ A.in1 (tryCatch (pyNext (.ref It)) _ >>= _) _ _ _
 refine wpAny_bind (wpAny_tryCatch (j30 hit1 sq2 (by simpa using eu) fun h' hit' sb=>?_))
 obtain⟨oI',goI',dI'⟩:=hit'.ex
 have I2:Inv X (pins++[(It,oI'),(S,seqObj "list" #[] 0)]) σ H { s with heap:=h' }:=I1.repin (List.mem_append_right _ (.head _)) sI (fun b u n e=>(sb.2 b n).trans e) goI' dI' (fun p hp=>pI p (List.mem_append_left _ hp)) fun p hp=>by
  skip;rcases List.mem_append.mp hp with z | z
  ·exact .inl ⟨List.mem_append_left _ z,pI p (List.mem_append_right _ z)⟩
  ·rcases List.mem_cons.mp z with rfl | z
   ·exact .inr rfl
   ·rw[List.mem_singleton.mp z];exact .inl ⟨List.mem_append_right _ (.tail _ (.head _)),hSI⟩
 show wpAny _ A.in1 (tryCatch (holding [u] (call (.ref q) [u])) _ >>= _) _ _ _
 refine wpAny_bind (wpAny_tryCatch (wpAny_holding (wpAny_mono (T.turn (fun p hp=>List.mem_append_left _ hp) I2 hG hx ru) (fun ku s2 ⟨kv2,H2,I3,rk2,hk2,e2⟩=>?_) fun _ _ hF=>hF)))
 have gI2:=(I3.pin (It,oI') (List.mem_append_right _ (List.mem_append_right _ (.head _)))).1
 have gS2:=(I3.pin (S,seqObj "list" #[] 0) (List.mem_append_right _ (List.mem_append_right _ (.tail _ (.head _))))).1
 have hit2:ItA tp s2.heap It l 1:=hit'.at fun o e=>by rw[goI'] at e;cases e;exact gI2
 have s1:=Heap.SameBut.update s2.heap S (Obj.mapSeq fun _=>#[u,ku])
 obtain⟨c2,hc2⟩:∃ c2,(s2.heap.update S (Obj.mapSeq fun _=>#[u,ku])).get? S=some (seqObj "list" #[u,ku] c2):=⟨_,get?_update_seq gS2 fun _=>#[u,ku]⟩
 show wpAny _ A.in1 (updateSeq S (fun _=>#[u,ku]) >>= _) _ _ _
 skip;refine wpAny_bind ?_
 refine wpAny_updateSeq gS2 rfl ?_
 rw[hname]
 have I4:Inv X (pins++[(It,oI'),(S,seqObj "list" #[u,ku] c2)]) σ H2 { s2 with heap:=s2.heap.update S (Obj.mapSeq fun _=>#[u,ku]) }:=I3.repin (List.mem_append_right _ (.tail _ (.head _))) sS (fun b u n e=>(s1.2 b n).trans e) hc2 (fun v z=>by cases z) (fun p hp=>pS p (List.mem_append_left _ hp)) fun p hp=>by
  skip;rcases List.mem_append.mp hp with z | z
  ·exact .inl ⟨List.mem_append_left _ z,pS p (List.mem_append_right _ z)⟩
  ·rcases List.mem_cons.mp z with rfl | z
   ·exact .inl ⟨List.mem_append_right _ (.head _),hSI.symm⟩
   ·exact .inr (List.mem_singleton.mp z)
 refine wpAny_pure ⟨plainId_quiet PySem.F.plain_min_loop _,jhw hh KY T sI sS hSI pI pS (fun h1 h2 h3 h4=>hQ h1 h2 h3 h4) _ 0 rfl hne I4 (hit2.at fun o e=>(s1.2 It hSI.symm).trans e) hx ru rk2 hk2 (T.ext e2 hG)⟩
end
section
variable {prog:Program}{w:World}{A:Around}{E:Value→Shared→Prop}{s:Shared}
theorem jhx {a b:Int}{t u:Tok}{Q:Value→Shared→Prop} (h:Q (.bool (decide (a < b))) s):wpAny (model prog w) A (richCompare .Lt (.int a t) (.int b u)) Q E s :=
 richCompare_gives (op:=.Lt) (typeIs_int s _ t) (typeIs_int s _ u) F.slot_int_lt F.entry_int_lt (F.args_int_lt_2 _ _) (gives_int_lt _ _ t u) (fun x=>nomatch x) h
end
def KRi (kf:Nat→Int):Hp→V→Nat→Prop:=fun _ v i=>v=.int (kf i)
def lti (kf:Nat→Int) (i j:Nat):Bool:=decide (kf i < kf j)
section
variable {X:Cx}{σ:St}{A:Around}
theorem j9l (kf:Nat→Int):Keyed X A σ (KRi kf) (lti kf) where
 ext:=fun _ h=>h
 cmp:=fun {pins H s v1 v2 u1 u2 i j Q E} I h1 r1 h2 r2 q=>by
  cases (show v1=.int (kf i) from h1)
  cases (show v2=.int (kf j) from h2)
  obtain⟨t1,rfl⟩:=r1
  obtain⟨t2,rfl⟩:=r2
  exact jhx q
end
abbrev LA (α:Type):=List (Addr × Obj)→Addr→Addr→Shared→Hp→α
def srcO (tp:Bool) (xs:List V):HO:=if tp then .tup xs else .lst xs
theorem jhy {K:PySem.W.Frag}{H:Hp}{l:Addr}{xs:List V}{tp:Bool} (h:H l=some (srcO tp xs)):SqE K H l xs tp:=by
 cases tp
 ·exact SqL.of h
 ·exact SqT.of h
theorem jew (tp:Bool) (xs:List V):noTb (srcO tp xs)=true:=by cases tp <;> rfl
theorem jbk {P:Program}{w:World}{K:PySem.W.Frag}{mg mb:Str→Option Value}{CX:CXT}{k:Nat}{fa a:Addr}{fd:FuncData}{x:Str}{sp:Sp}{s₁:Shared}{vs:List Value}{ns:List Int}{cps:List (Addr × Addr)}
  (KX:K.In s₁.heap) (hns:s₁.heap.Ns mainGlobals mg) (hb:s₁.heap.Ns builtinsNs mb) (hbb:∀ x:Str,x≠"__name__"→mb x=bootBuiltins x) (hlim:s₁.heap.NoLimit)
  (hbm:∃ bm ob,mg "__builtins__"=some (.ref bm)∧bm≠builtinsNs∧s₁.heap.get? bm=some ob∧ob.cls=.type "module"∧ob.dict=some builtinsNs∧ob.data=.plain) (hg:s₁.gens=#[])
  (ha:s₁.heap.get? a=some { cls:=.type "list",data:=.seq vs.toArray }) (hi:IntsAre vs ns) (hl:ns.length≤sizeLine) (hr:Room k callerA)
  (hK:PySem.W.noTabs K=true) (hT:∀ q∈cps,PySem.W.codeHdIn K q.1 q.2=true∧s₁.heap.get? q.2=some (PySem.W.tabObj #[]))
  (F:∀ base:Heap,K.In base→base.Ns mainGlobals mg→FnOk P w K mg base CX k fa fd [x] sp) (hbind:∀ (s:Shared) (u:Value),BindsTo s fd ⟨[u],[]⟩ [(x,u)])
  (hsp:∀ H:Hp,(∀ q∈cps,H q.2=some (.tbl #[]))→SqL K H a (ns.map V.int)→sp [.ref a] H (fun v _=>v=.bl true) fun _ _ _=>False)
  (hCX:∀ H e s',CX [] H s₁ (fun _ _ _=>False) e s'→False) :
  codeAny (model P w) callerA (.call (.ref fa) ⟨[.ref a],[]⟩) (fun r s'=>r=.ok (.ret (.bool true))∧OldK s₁.heap s'.heap∧s'.os=s₁.os∧AllBare s'.gens) s₁:=by
 have rv:=j1y hi
 have lenV:=hi.length
 have tabN:∀ q∈cps,q.2≠a:=fun q hq z=>by
  have:=(hT q hq).2
  rw[z,ha] at this
  cases this
 have tabK:∀ q∈cps,K.lookup q.2=none:=fun q hq=>by
  cases e:K.lookup q.2 with
  | none=>rfl
  | some o =>
   have h1:=KX _ _ e
   rw[(hT q hq).2] at h1
   cases h1
   have h2:=List.all_eq_true.mp hK (q.2,_) (PySem.W.mem_of_lookupK e)
   skip;exact absurd (show false=true from h2) Bool.false_ne_true
 let tr:Addr→Option HO:=fun b=>if b=a then (if K.lookup a=none then some (.frz { cls:=.type "list",data:=.seq vs.toArray } (.lst (ns.map V.int))) else none) else if b∈cps.map (·.2) then some (.tbl #[]) else none
 obtain⟨H,hH⟩:∃ H:Hp,H=tr:=⟨tr,rfl⟩
 have Ha:H a=if K.lookup a=none then some (.frz { cls:=.type "list",data:=.seq vs.toArray } (.lst (ns.map V.int))) else none:=by rw[hH];exact if_pos rfl
 have Hb:∀ b,b≠a→b∈cps.map (·.2)→H b=some (.tbl #[]):=fun b h1 h2=>by rw[hH];show (if _ then _ else _)=_;rw[if_neg h1,if_pos h2]
 have Hn:∀ b,b≠a→b∉cps.map (·.2)→H b=none:=fun b h1 h2=>by rw[hH];show (if _ then _ else _)=_;rw[if_neg h1,if_neg h2]
 have each:∀ b u,H b=some u→(b=a∧K.lookup a=none∧u=.frz { cls:=.type "list",data:=.seq vs.toArray } (.lst (ns.map V.int)))∨(u=.tbl #[]∧∃ q∈cps,q.2=b):=fun b u e=>by
  by_cases h1:b=a
  ·subst h1
   rw[Ha] at e
   by_cases h2:K.lookup b=none
   ·rw[if_pos h2] at e;cases e;exact .inl ⟨rfl,h2,rfl⟩
   ·rw[if_neg h2] at e;cases e
  ·by_cases h2:b∈cps.map (·.2)
   ·rw[Hb b h1 h2] at e
    cases e
    obtain⟨q,hq,rfl⟩:=List.mem_map.mp h2
    exact .inr ⟨rfl,q,hq,rfl⟩
   ·rw[Hn b h1 h2] at e;cases e
 have kn:∀ b u,H b=some u→K.lookup b=none:=fun b u e=>by
  rcases each b u e with⟨rfl,h,_⟩ | ⟨_,q,hq,rfl⟩
  ·exact h
  ·exact tabK q hq
 have hok:HOk P w H s₁.heap:=fun b u e=>by
  rcases each b u e with⟨rfl,h,rfl⟩ | ⟨rfl,q,hq,rfl⟩
  ·exact⟨ha,by rw[List.length_map];exact hl,vs,_,rv,ha⟩
  ·exact (hT q hq).2
 have hS:SqL K H a (ns.map V.int):=by
  cases hk:K.lookup a with
  | some o =>
   have e:=KX a o hk
   rw[ha] at e
   cases e
   exact .inr ⟨_,vs.toArray,_,hk,rfl,rfl,rfl,by rw[List.size_toArray,lenV];exact hl,by simpa using rv⟩
  | none=>exact .inl (.inr ⟨{ cls:=.type "list",data:=.seq vs.toArray },by rw[Ha,if_pos hk]⟩)
 have base_of:∀ {b:Addr}{o:Obj},s₁.heap.get? b=some o→H b=none→(hidT s₁.heap H).get? b=some o:=fun e n=>j7x e n
 have noA:∀ {b:Addr}{o:Obj},s₁.heap.get? b=some o→(∀ its n,o.data≠.seq its n)→(∀ fs,o.data≠.fields fs)→H b=none:=fun {b o} e d1 d2=>by
  cases q:H b with
  | none=>rfl
  | some u =>
   rcases each b u q with⟨rfl,_,_⟩ | ⟨_,q',hq,rfl⟩
   ·rw[ha] at e;cases e;exact (d1 _ _ rfl).elim
   ·rw[(hT q' hq).2] at e;cases e;exact (d2 _ rfl).elim
 have nsK:∀ {b:Addr}{m:Str→Option Value},s₁.heap.Ns b m→(hidT s₁.heap H).Ns b m:=fun {b m} ⟨o,es,ep,e,d,r⟩=>⟨o,es,ep,base_of e (noA e (fun _ _ z=>by rw[d] at z;cases z) fun _ z=>by rw[d] at z;cases z),d,r⟩
 have hKb:K.In (hidT s₁.heap H):=fun b o e=>base_of (KX b o e) (by
  cases q:H b with
  | none=>rfl
  | some u=>rw[kn b u q] at e;cases e)
 have hM:Mod K mg (hidT s₁.heap H):=⟨hKb,nsK hns,⟨mb,nsK hb,hbb⟩,let ⟨mc,h1,h2⟩:=hlim;⟨mc,nsK h1,h2⟩,by
  obtain⟨bm,ob,b1,b2,b3,b4,b5,b6⟩:=hbm
  exact⟨bm,ob,b1,b2,base_of b3 (noA b3 (fun _ _ z=>by rw[b6] at z;cases z) fun _ z=>by rw[b6] at z;cases z),b4,b5,b6⟩⟩
 have e0:Env0 P w K mg (hidT s₁.heap H) callerA [] s₁ H:=⟨rfl,hM,fun b o e=>jc2 e,Nat.le_of_eq (j6b _ _),trivial,fun b hb=>absurd (show b∈([]:List Addr) from hb) (by simp),hok,.of_eq hg⟩
 refine codeAny_mono ((F _ hKb (nsK hns)).run callerA [] s₁ H ⟨[.ref a],[]⟩ [.ref a] [.ref a] _ _ hr e0 (hbind s₁ (.ref a)) (.cons rfl .nil) (hsp H (fun q hq=>Hb _ (tabN q hq) (List.mem_map.mpr ⟨q,hq,rfl⟩)) hS)) fun r s' h=>?_
 cases r with
 | error e=>exact (hCX H e s' h).elim
 | ok fl =>
  cases fl with
  | next=>exact False.elim h
  | brk=>exact False.elim h
  | cont=>exact False.elim h
  | ret u =>
   obtain⟨v,H',os,bare,un,hok',r',q⟩:=h
   have q':v=.bl true:=q
   subst q'
   obtain rfl:u=Value.bool true:=r'
   have got:∀ b o,s₁.heap.get? b=some o→s'.heap.get? b=some o∨(∃ q∈cps,q.2=b∧∃ more,s'.heap.get? b=some { cls:=.none,data:=.fields (#[]++more) }):=fun b o e=>by
    cases q:H b with
    | none=>exact .inl (un.keep b o e q (by intro z;exact absurd (show b∈([]:List Addr) from z) (by simp)) (by simp))
    | some u =>
     rcases each b u q with⟨rfl,_,rfl⟩ | ⟨rfl,q',hq,rfl⟩
     ·have z2:=un.frzs b _ _ q
      obtain⟨e1,_⟩:=hok b _ q
      obtain⟨e2,_⟩:=hok' b _ z2
      rw[e] at e1;cases e1
      exact .inl e2
     ·obtain⟨more,z2⟩:=un.tbls _ _ q
      exact .inr ⟨q',hq,rfl,more,hok' _ _ z2⟩
   refine⟨rfl,⟨fun b o e=>?_,fun b o e=>?_⟩,os,bare⟩
   ·rcases got b o e with z | ⟨q',hq,rfl,more,z⟩
    ·exact .inl z
    ·obtain⟨h1,h2⟩:=hT q' hq
     rw[h2] at e
     cases e
     obtain⟨oc,vc,file,tf,flags,tg,inF,text,tt,c1,c2,c3,c4,_⟩:=PySem.W.codeHd_of_K KX h1
     exact .inr (.inl ⟨⟨q'.1,oc,vc,c1,c2,c3,c4⟩,rfl,#[],more,rfl,z⟩)
   ·rcases got b o e with z | ⟨_,_,_,_,z⟩
    ·exact⟨_,z⟩
    ·exact⟨_,z⟩
theorem walk_ofT {l:PySem.W.OpenLaw}{n k:Nat}{q:Program}{loose:List Str}{XP:(Str→Option Value)→Heap→Prop}{YP:World→Heap→Prop}{d:DefRec}{K:Params→PySem.W.Frag}{CX:World→CXT}{x:Str}{ts:List Addr}
  (hn:l.most=some n) (hn2:n≤sizeLine) (hdf:d.params.defaults=[]) (hr:Room k callerA)
  (hY:∀ (w:World) (h:Heap),YP w h→(K w.params).In h) (hY2:∀ (w:World) (h:Heap),YP w h→∀ P∈ts,h.get? P=some (PySem.W.tabObj #[]))
  (F:∀ (w:World) (mg:Str→Option Value) (fa:Addr) (h:Heap),(K w.params).In h→h.Ns mainGlobals mg→mg d.name=some (.ref fa) →
   ∃ (fd:FuncData) (cps:List (Addr × Addr)) (sp:Sp),PySem.W.noTabs (K w.params)=true∧(∀ q∈cps,PySem.W.codeHdIn (K w.params) q.1 q.2=true∧ts.contains q.2=true)∧(∀ (s:Shared) (u:Value),BindsTo s fd ⟨[u],[]⟩ [(x,u)]) ∧
    (∀ (H:Hp) (a:Addr) (ns:List Int),ns.length≤n→(∀ z∈ns,ib z≤1048576)→(∀ q∈cps,H q.2=some (.tbl #[]))→SqL (K w.params) H a (ns.map V.int)→sp [.ref a] H (fun v _=>v=.bl true) fun _ _ _=>False) ∧
    ∀ base:Heap,(K w.params).In base→base.Ns mainGlobals mg→FnOk l.prog w (K w.params) mg base (CX w) k fa fd [x] sp)
  (hCX:∀ (w:World) (H:Hp) (s:Shared) (e:Value) (s':Shared),CX w [] H s (fun _ _ _=>False) e s'→False) :
  PySem.W.WalkO q loose XP YP l.row.toRowW d [] (fun f vs=>PySem.call f vs):=by
 refine j5m hn hdf fun w s₀ s₁ mg mb fa o pm cd doc a vs ns G Y ho hd hcd hmg hobj hints hlen hbit hg=>?_
 have KX:=hY w _ Y
 obtain⟨fd,cps,sp,hK,hT,hb,hsp,hF⟩:=F w mg fa _ KX G.T.g hmg
 exact jbk KX G.T.g G.T.b G.T.builtins G.T.nolimit G.T.bmain hg hobj hints (Nat.le_trans hlen hn2) hr hK (fun q hq=>⟨(hT q hq).1,hY2 w _ Y _ (by have:=(hT q hq).2;simpa using this)⟩) hF hb (fun H h1 hS=>hsp H a ns hlen hbit h1 hS) fun H e s'=>hCX w H s₁ e s'
section
variable {P:Program}{w:World}{K:PySem.W.Frag}{mg:Str→Option Value}{base:Heap}
theorem Room.lam {j k:Nat}{A:Around}{env:Env} (h:j+2≤k) (r:Room k A):Room j (A.in1.deeper env):=(r.mono h).in1.deeper env
end
structure NoC (K:PySem.W.Frag) (C B:Addr):Prop where
 ha:PySem.W.findIn K (.ref C) "__class__"=some (some (.builtin "object.__class__"))
 hn:PySem.W.specialIn K (.builtin "object.__class__") "__get__"=some (some (.builtin "getset_descriptor.__get__"))
 htk:PySem.W.takesIn K (.builtin "object.__class__")=some true
 hm:PySem.W.mroIn K C (.type "object")=some true
 ki:PySem.W.kitOne K (.ref C) (.ref B)=some false
section
variable {X:Cx}
def rTIxI:V→List V→Hp→VK→Prop:=fun x vs H Q=>∃ (p:Addr) (ns:List Int) (k:Int),x=.ref p∧vs=[.int k]∧H p=some (.tup (ns.map V.int))∧k∈ns∧ns.length≤1000000∧Q (.int (ns.idxOf k:Nat)) H
theorem j9m:MtM X "tuple.index" rTIxI:=by
 skip;intro pins s σ H x vs v us Q I rx rv h
 obtain⟨p,ns,k,rfl,rfl,hp,hk,hz,q⟩:=h
 cases rx
 obtain⟨u,rfl,t,rfl⟩:=rv.one
 obtain⟨_,its,r,it,_⟩:=(show ObjOk X.prog X.w H s.heap p (.tup (ns.map V.int)) from I.hok p _ hp)
 have hi:IntsAre its ns:=j14 r
 have hn:=hi.length
 skip;have hj:ns.idxOf k < ns.length:=List.idxOf_lt_length_iff.mpr hk
 refine call_meets F.slot_tuple_index it.typeIs F.entry_tuple_index (F.args_tuple_index_2 _ _) (jb5 p its.toArray (.int k t) (isInt k) (ns.idxOf k) (by rw[List.size_toArray];omega) ?_ ?_) ⟨it,fun y hy=>?_,?_⟩
 ·refine (isInt_at k hi _ (by omega) hj).trans ?_
  rw[List.getElem_idxOf hj]
  exact beq_self_eq_true k
 ·intro m hm h2
  rw[List.size_toArray] at hm
  refine (isInt_at k hi m (by omega) (by omega)).trans ?_
  exact List.not_of_lt_findIdx h2
 ·exact (eq_isInt k t hi y (by simpa using hy)).at _ _
 ·exact⟨.int (ns.idxOf k:Nat),H,I.tok _,⟨_,rfl⟩,q⟩
end
theorem jbl {H:Hp}{Q:VK}{p:Addr}{ns:List Int}{k:Int} (h:H p=some (.tup (ns.map V.int))) (hk:k∈ns) (hz:ns.length≤1000000) (q:Q (.int (ns.idxOf k:Nat)) H):rTIxI (.ref p) [.int k] H Q:=⟨p,ns,k,rfl,rfl,h,hk,hz,q⟩
structure RiseG (w:World) (t:SetTable) (n:Nat) (sl:Nat→Nat):Prop where
 fits:t.fits n=true
 dr:byT w=false→(!t.plain && decide (n > 1))=false
 zero:sl 0=0
 low:∀ i,i≤n→SetTable.below t.place (sl i)=i
 step:∀ i,i < n→∃ j,t.place[i]?=some j∧j+1=sl (i+1)
section
variable {prog:Program}{w:World}{A:Around}{E:Value→Shared→Prop}{s:Shared}
def RowET (prog:Program) (w:World) (Z:Addr→List Str→Prop) (h:Heap) (e:Int × Value) (L:List Str):Prop:=∃ a,e.2=.ref a∧IsTupleKey (PySem.strKind prog w) h L a∧e.1=tupleKeyHash (PySem.strKind prog w) L∧Z a L
inductive RowsET (prog:Program) (w:World) (Z:Addr→List Str→Prop) (h:Heap):List (Int × Value)→List (List Str)→Prop
 | nil:RowsET prog w Z h [] []
 | cons {e:Int × Value}{L:List Str}{es:List (Int × Value)}{Ls:List (List Str)}:RowET prog w Z h e L→RowsET prog w Z h es Ls→RowsET prog w Z h (e :: es) (L :: Ls)
end
end L2
set_option Elab.async false
set_option linter.all false
set_option maxRecDepth 100000
set_option maxHeartbeats 4000000
namespace L2
open PySem PySem.Spec PyProof.Rows PySem.W
def cpm (L:List Str):List (List Nat):=L.map fun x=>x.cps.toList
inductive StrsV:List Value→List Str→Prop
 | nil:StrsV [] []
 | cons (n:Str) (t:Tok) {vs:List Value}{ns:List Str}:StrsV vs ns→StrsV (.str n t :: vs) (n :: ns)
inductive RowsVT (prog:Program) (w:World) (Z:Addr→List Str→Prop) (h:Heap):List Value→List (List Str)→Prop
 | nil:RowsVT prog w Z h [] []
 | cons {a:Addr}{L:List Str}{vs:List Value}{Ls:List (List Str)}:IsTupleKey (PySem.strKind prog w) h L a→Z a L→RowsVT prog w Z h vs Ls→RowsVT prog w Z h (.ref a :: vs) (L :: Ls)
inductive RefsHT (H:Hp):List V→List (List Str)→Prop
 | nil:RefsHT H [] []
 | cons {a:Addr}{L:List Str}{vs:List V}{Ls:List (List Str)}:H a=some (.tup (L.map V.str))→RefsHT H vs Ls→RefsHT H (.ref a :: vs) (L :: Ls)
section
open PySem.SeqAt
open PySem.AutoSeq1 (wpAny_loadPart')
open PySem.MeetsSeq PySem.MeetsSeq2 PySem.MeetsSeq3
end
end L2
set_option Elab.async false
set_option linter.all false
set_option maxRecDepth 100000
set_option maxHeartbeats 4000000
namespace L2
open PySem PySem.Spec PyProof.Rows PySem.W
def jcq (p q:List Str × Int):Prop:=cpm p.1 < cpm q.1∨(p.1=q.1∧p.2 < q.2)
instance (p q:List Str × Int):Decidable (jcq p q):=by unfold jcq;infer_instance
inductive PairsAtT (prog:Program) (w:World) (h:Heap):List Value→List (List Str × Int)→Prop
 | nil:PairsAtT prog w h [] []
 | cons {c a:Addr}{L:List Str}{x:Int}{t:Tok}{vs:List Value}{Ks:List (List Str × Int)}:IsTup h c #[.ref a,.int x t]→IsTupleKey (PySem.strKind prog w) h L a→PairsAtT prog w h vs Ks→PairsAtT prog w h (.ref c :: vs) ((L,x) :: Ks)
inductive PairsHT (H:Hp):List V→List (List Str × Int)→Prop
 | nil:PairsHT H [] []
 | cons {c a:Addr}{L:List Str}{x:Int}{vs:List V}{Ks:List (List Str × Int)}:H c=some (.tup [.ref a,.int x])→H a=some (.tup (L.map V.str))→PairsHT H vs Ks→PairsHT H (.ref c :: vs) ((L,x) :: Ks)
section
open PySem.SeqAt
open PySem.AutoSeq1 (wpAny_loadPart')
open PySem.MeetsSeq PySem.MeetsSeq2 PySem.MeetsSeq3
end
section
variable {prog:Program}{w:World}{A:Around}{E:Value→Shared→Prop}{s:Shared}{d it:Addr}{o:Obj}{es:Array DictEntry}{i ep:Nat}
theorem j9n (ho:s.heap.get? d=some o) (hc:o.ExactDict):s.TypeIs (.ref d) "dict":=⟨o,ho,hc.1⟩
theorem jcr {Q:Value→Shared→Prop} (hd:(d == sysModules)=false) (ho:s.heap.get? d=some o) (hc:o.ExactDict) (hdat:o.data=.dict es ep)
  (hQ:∀ h',h'.IsKeyIter s.heap.objs.size d 0 es.size ep→(∀ b u,s.heap.get? b=some u→h'.get? b=some u)→Q (.ref s.heap.objs.size) { s with heap:=h' }):wpAny (model prog w) A (pyIter (.ref d)) Q E s:=by
 have hT:=j9n ho hc
 refine wpAny_pyIter_slot hT PySem.F.slot_dict_iter (wpAny_call_entry PySem.F.slot_dict_iter hT PySem.F.entry_dict_iter ?_ (PySem.F.args_dict_iter_1 _))
 skip;unfold Builtin.«dict.__iter__»
 refine wpAny_bind ?_
 skip;unfold Builtin.Dict.dictSlotNone
 refine wpAny_bind (wpAny_notOrdered_dict hT ?_);show wpAny _ _ (pure (Value.ref d)) _ _ s
 refine wpAny_pure ?_;show wpAny _ _ (Builtin.Dict.showsAll d >>= _) _ _ s
 unfold Builtin.Dict.showsAll;rw[if_neg (by rw[hd];decide)]
 refine wpAny_bind (wpAny_pure (wpAny_bind (wpAny_dictEntries ho hdat (wpAny_bind (wpAny_dictEpoch ho hdat ?_)))))
 refine wpAny_bind (wpAny_newObj_type (wpAny_pure ⟨_,rfl,"dict_keyiterator",_,⟨_,Heap.get?_push_size _ rfl,rfl⟩,PySem.F.slot_dict_keyiterator_next.lookup,?_⟩))
 exact hQ _ ⟨_,Heap.get?_push_size _ rfl,rfl,rfl⟩ fun b u e=>Heap.get?_push_of_some _ e
theorem jcs {Q:Option Value→Shared→Prop} (hit:s.heap.IsKeyIter it d i es.size ep) (ho:s.heap.get? d=some o) (hc:o.ExactDict) (hdat:o.data=.dict es ep) (hlt:i < es.size)
  (hQ:∀ h',h'.IsKeyIter it d (i+1) es.size ep→Heap.SameBut it s.heap h'→Q (some es[i].key) { s with heap:=h' }):wpAny (model prog w) A (pyNext (.ref it)) Q E s:=by
 obtain⟨oi,hoi,hci,hdi⟩:=id hit
 unfold pyNext
 refine wpAny_bind (wpAny_attempt (wpAny_callSpecial?_slot (name:=Str.ofString "__next__") hit.typeIs PySem.F.slot_dict_keyiterator_next (wpAny_call_entry PySem.F.slot_dict_keyiterator_next hit.typeIs PySem.F.entry_dict_keyiterator_next ?_ (PySem.F.args_dict_keyiterator_next_1 _))))
 refine wpAny_bind (wpAny_pure (wpAny_bind (wpAny_bind ?_)))
 first | refine wpAny_bind (wpAny_typeNameOfWhole_keyiter hit.typeIs (wpAny_pure (wpAny_bind (wpAny_fieldsOf hoi hdi ?_)))) | refine wpAny_bind (wpAny_typeNameOf_keyiter hit.typeIs (wpAny_pure (wpAny_bind (wpAny_fieldsOf hoi hdi ?_))))
 simp only[show Builtin.Dict_items.ownsTuple "dict_keyiterator"=false by decide,Bool.false_eq_true,if_false]
 show wpAny _ _ (if (Value.ref d == Value.none)=true then _ else _) _ _ s;rw[if_neg (show ¬ ((Value.ref d == Value.none)=true) by exact Bool.false_ne_true)]
 refine wpAny_bind (wpAny_pure (wpAny_bind (wpAny_dictEntries ho hdat ?_)));rw[if_neg (by simp)]
 refine wpAny_bind (wpAny_pure (wpAny_bind (wpAny_dictEpoch ho hdat ?_)));rw[if_neg (by simp)]
 refine wpAny_pure ?_
 simp only[show ¬ ((i:Int) < 0) by omega,if_false,Int.toNat_natCast,Array.getElem?_eq_getElem hlt]
 refine wpAny_bind ?_
 first | refine wpAny_bind (wpAny_typeNameOfWhole_keyiter hit.typeIs (wpAny_pure (wpAny_bind (wpAny_isOneOf_keyiter hit.typeIs ?_)))) | refine wpAny_bind (wpAny_typeNameOf_keyiter hit.typeIs (wpAny_pure (wpAny_bind (wpAny_isOneOf_keyiter hit.typeIs ?_))))
 show wpAny _ _ (setField (.ref it) 1 (rawInt ((i:Int)+1)) >>= _) _ _ s;refine wpAny_bind (wpAny_setField hoi hdi (by simp) ?_)
 have hit':(s.heap.update it (Obj.mapFields (·.setIfInBounds 1 (rawInt ((i:Int)+1))))).IsKeyIter it d (i+1) es.size ep :=
  ⟨_,Heap.get?_update_self _ hoi (Obj.isFreed_of_fields (Obj.data_mapFields hdi _)),(Obj.cls_mapFields ..).trans hci,(Obj.data_mapFields hdi _).trans (by simp[rawInt])⟩
 refine wpAny_bind (wpAny_holding (wpAny_bind (wpAny_isOneOf_keyiter (s:={ s with heap:=s.heap.update it (Obj.mapFields (·.setIfInBounds 1 (rawInt ((i:Int)+1)))) }) hit'.typeIs ?_)))
 skip;show wpAny _ _ (pure es[i].key) _ _ _
 exact wpAny_pure (wpAny_pure ⟨_,rfl,wpAny_pure (hQ _ hit' (Heap.SameBut.update ..))⟩)
theorem jhz {Q:Option Value→Shared→Prop} (hh:A.handled=none) (hit:s.heap.IsKeyIter it d i es.size ep) (ho:s.heap.get? d=some o) (hc:o.ExactDict) (hdat:o.data=.dict es ep) (hge:es.size≤i)
  (hQ:∀ h2,Heap.ExtBut it s.heap h2→Q none { s with heap:=h2 }):wpAny (model prog w) A (pyNext (.ref it)) Q E s:=by
 obtain⟨oi,hoi,hci,hdi⟩:=id hit
 unfold pyNext
 refine wpAny_bind (wpAny_attempt (wpAny_callSpecial?_slot (name:=Str.ofString "__next__") hit.typeIs PySem.F.slot_dict_keyiterator_next (wpAny_call_entry PySem.F.slot_dict_keyiterator_next hit.typeIs PySem.F.entry_dict_keyiterator_next ?_ (PySem.F.args_dict_keyiterator_next_1 _))))
 refine wpAny_bind (wpAny_pure (wpAny_bind (wpAny_bind ?_)))
 first | refine wpAny_bind (wpAny_typeNameOfWhole_keyiter hit.typeIs (wpAny_pure (wpAny_bind (wpAny_fieldsOf hoi hdi ?_)))) | refine wpAny_bind (wpAny_typeNameOf_keyiter hit.typeIs (wpAny_pure (wpAny_bind (wpAny_fieldsOf hoi hdi ?_))))
 simp only[show Builtin.Dict_items.ownsTuple "dict_keyiterator"=false by decide,Bool.false_eq_true,if_false]
 show wpAny _ _ (if (Value.ref d == Value.none)=true then _ else _) _ _ s;rw[if_neg (show ¬ ((Value.ref d == Value.none)=true) by exact Bool.false_ne_true)]
 refine wpAny_bind (wpAny_pure (wpAny_bind (wpAny_dictEntries ho hdat ?_)));rw[if_neg (by simp)]
 refine wpAny_bind (wpAny_pure (wpAny_bind (wpAny_dictEpoch ho hdat ?_)));rw[if_neg (by simp)]
 refine wpAny_pure ?_
 simp only[show ¬ ((i:Int) < 0) by omega,if_false,Int.toNat_natCast,Array.getElem?_eq_none hge]
 refine wpAny_bind ?_
 first | fail | refine wpAny_bind (wpAny_typeNameOfWhole_keyiter hit.typeIs (wpAny_pure ?_)) | refine wpAny_bind (wpAny_typeNameOf_keyiter hit.typeIs (wpAny_pure ?_))
 show wpAny _ _ (setField (.ref it) 0 .none >>= _) _ _ s;refine wpAny_bind (wpAny_setField hoi hdi (by simp) ?_)
 show wpAny _ _ (newExc (.type "StopIteration") [] >>= _) _ _ _;refine wpAny_bind ?_
 simp only[newExc,newTuple]
 refine wpAny_bind (wpAny_newObj_type (wpAny_bind (m:=firstArgMember _ _) (wpAny_of_eq (a:=Value.none) (by first | rfl | (simp only[firstArgMember];rfl)) ?_)) (by size_fits))
 skip;refine wpAny_newObj_type ?_ (by size_fits)
 simp only[raiseNew];refine wpAny_bind (wpAny_handled ?_)
 rw[show A.in1.handled=none from hh];refine wpAny_bind (wpAny_pure (wpAny_throw ?_))
 refine wpAny_bind (wpAny_isInstance (T:="StopIteration") (b:=true) ⟨_,Heap.get?_push_size _ rfl,rfl⟩ isSubtype_stop (wpAny_pure (hQ _ (((Heap.SameBut.update ..).extBut.push _).push _))))
theorem jct {Q:Value→Shared→Prop}{n:Nat} (hit:s.heap.IsKeyIter it d i n ep) (h:Q (.ref it) s):wpAny (model prog w) A (pyIter (.ref it)) Q E s:=by
 refine wpAny_pyIter_slot hit.typeIs PySem.F.slot_dict_keyiterator_iter (wpAny_call_entry PySem.F.slot_dict_keyiterator_iter hit.typeIs PySem.F.entry_dict_keyiterator_iter ?_ (PySem.F.args_dict_keyiterator_iter_1 _))
 exact wpAny_pure ⟨_,rfl,"dict_keyiterator",_,hit.typeIs,PySem.F.slot_dict_keyiterator_next.lookup,h⟩
end
def ItdT (a:Addr) (o:Obj):It :=
 ⟨fun i H=>∃ kvs,H a=some (.frz o (.dT kvs))∧i < kvs.length,fun i H x H'=>H'=H∧∀ kvs,H a=some (.frz o (.dT kvs))→∃ kv b,kvs[i]?=some kv∧x=.ref b∧H b=some (.tup (kv.1.map kV)),fun i H=>∃ kvs,H a=some (.frz o (.dT kvs))∧kvs.length≤i⟩
theorem Paired.at {α β:Type}{F:α→β→Prop}{l₁:List α}{l₂:List β} (r:Paired F l₁ l₂):∀ (i:Nat) (a:α) (b:β),l₁[i]?=some a→l₂[i]?=some b→F a b:=by
 induction r with
 | nil=>intro i a b h;simp at h
 | cons x _ ih =>
  intro i a b h1 h2
  cases i with
  | zero=>simp at h1 h2;subst h1 h2;exact x
  | succ i=>exact ih i a b (by simpa using h1) (by simpa using h2)
theorem fz_t {P:Program}{w:World}{H:Hp}{h:Heap}{a:Addr}{o:Obj}{kvs:List (List Key × V)} (ok:HOk P w H h) (e:H a=some (.frz o (.dT kvs))):h.get? a=some o∧o.ExactDict∧(a == sysModules)=false∧∃ es ep,o.data=.dict es ep∧es.size=kvs.length∧∀ (i:Nat) (hi:i < es.size),∃ kv b,kvs[i]?=some kv∧es[i].key=.ref b∧H b=some (.tup (kv.1.map kV)):=by
 obtain⟨h1,z,y,xs,rel,o',es,ep,g,c,dt,en,nd⟩:=(show ObjOk P w H h a (.frz o (.dT kvs)) from ok a _ e)
 rw[h1] at g
 cases g
 have l1:es.size=xs.length:=size_of_entries en
 have l2:kvs.length=xs.length:=Paired.length rel
 refine⟨h1,c,y,es,ep,dt,by omega,fun i hi=>?_⟩
 have hk:i < kvs.length:=by omega
 have hv:i < xs.length:=by omega
 have q:=Paired.at rel i kvs[i] xs[i] (List.getElem?_eq_getElem hk) (List.getElem?_eq_getElem hv)
 have en':=entry_at en i
 rw[Array.getElem?_eq_getElem hi,List.getElem?_eq_getElem hv] at en'
 injection en' with en'
 exact⟨kvs[i],xs[i].2.1,List.getElem?_eq_getElem hk,by rw[en'];rfl,q.2.1⟩
theorem j9o {P:Program}{w:World}{K:PySem.W.Frag}{tg:Expr} (a it:Addr) (o:Obj) {es:Array DictEntry}{ep:Nat} (hd:o.data=.dict es ep):Turn P w K tg (ItdT a o) [it] it (fun i h=>h.IsKeyIter it a i es.size ep) where
 mem:=List.mem_singleton.mpr rfl
 obj:=fun i h st b hb=>by
  cases List.mem_singleton.mp hb
  obtain⟨u,e,_,d⟩:=st
  exact⟨u,e,fun v z=>by rw[d] at z;cases z⟩
 keep:=fun i h h' st k=>let ⟨u,e,r⟩:=st;⟨u,k it (List.mem_singleton.mpr rfl) u e,r⟩
 item:=by
  intro X hP hw hK hc i pins s σ H E I hf st hg
  subst hP hw hK
  obtain⟨kvs,hq,hx⟩:=hg
  obtain⟨g1,g2,g3,es',ep',g4,g5,g6⟩:=fz_t I.hok hq
  rw[hd] at g4
  cases g4
  obtain⟨f0,f1,f2,f3,f4,f5⟩:=hf it (List.mem_singleton.mpr rfl)
  obtain⟨kv,b0,k1,k2,k3⟩:=g6 i (by omega)
  refine jcs st g1 g2 hd (by omega) fun h' st' sb=>?_
  have I1:Inv X pins σ H { s with heap:=h' }:=I.turned (t':=s.toks) (fun b u hb e=>(sb.2 b hb).trans e) f0 f1 f3 f4 f5
  obtain⟨u,e,c,d⟩:=id st'
  refine⟨_,rfl,jja (s:={ s with heap:=h' }) e c d (by decide) ⟨.ref b0,H,I1,k2,⟨rfl,fun kvs' hk'=>⟨kv,b0,by rw[hq] at hk';cases hk';exact k1,rfl,k3⟩⟩,st',fun b hb=>(hf b hb).1⟩⟩
 done:=by
  intro X hP hw hK hc i pins s σ H E I hf st hg
  subst hP hw hK
  obtain⟨kvs,hq,hx⟩:=hg
  obtain⟨g1,g2,g3,es',ep',g4,g5,g6⟩:=fz_t I.hok hq
  rw[hd] at g4
  cases g4
  obtain⟨f0,f1,f2,f3,f4,f5⟩:=hf it (List.mem_singleton.mpr rfl)
  exact jhz (I.ok.hd hc) st g1 g2 hd (by omega) fun h' eb=>⟨rfl,I.turned (t':=s.toks) (fun b u hb e=>eb b u hb e) f0 f1 f3 f4 f5⟩
 self:=fun _ _ _ _ _ st h=>jct st h
section
variable {X:Cx}{tg:Expr}
def iDT (tl:TE):TI:=fun σ H R=>tl σ H fun x H1=>∃ a o kvs,x=.ref a∧H1 a=some (.frz o (.dT kvs))∧R (ItdT a o) H1
theorem jm9 {l:Expr}{tl:TE} (hl:PE X l tl):PI X tg l (iDT tl):=by
 intro pins s σ H R I h
 refine thn (hl pins s σ H _ I h) fun v s1 ⟨x,H1,I1,r1,q1⟩=>?_
 obtain⟨a,o,kvs,e,hq,q⟩:=q1
 subst e
 cases r1
 obtain⟨g1,g2,g3,es,ep,g4,g5,g6⟩:=fz_t I1.hok hq
 refine jcr g3 g1 g2 g4 fun h' st k=>?_
 refine⟨s1.heap.objs.size,[s1.heap.objs.size],_,_,H1,rfl,I1.kept (t':=s1.toks) k,j9o a _ o g4,st,fun b hb=>?_,q⟩
 cases List.mem_singleton.mp hb
 exact I1.fpOk (Nat.le_refl _) (I1.hok.fresh (Nat.le_refl _))
end
section
variable {a:Addr}{o:Obj}{g:TG}{tb:TS}{D:Ends}{σ:St}{H:Hp}
theorem jex {kvs:List (List Key × V)} (Pv:Nat→St→Hp→Prop) (h0:Pv 0 σ H) (hl:∀ i σ H,i≤kvs.length→Pv i σ H→H a=some (.frz o (.dT kvs)))
  (hs:∀ i kv b σ H,kvs[i]?=some kv→H b=some (.tup (kv.1.map kV))→Pv i σ H→g (.ref b) σ H fun σ2 H2=>tb { D with nx:=Pv (i+1),ct:=Pv (i+1),bk:=D.nx } σ2 H2) (hd:∀ σ H,Pv kvs.length σ H→D.nx σ H) :
  ∃ W:Nat→Nat→St→Hp→Prop,(∃ m,W 0 m σ H)∧∀ i m σ H,W i m σ H →
   ((ItdT a o).stop i H∧D.nx σ H)∨((ItdT a o).go i H∧∃ N:St→Hp→Prop,(∀ σ' H',N σ' H'→∃ m',m' < m∧W (i+1) m' σ' H')∧∀ x H',(ItdT a o).yld i H x H'→g x σ H' fun σ2 H2=>tb { D with nx:=N,ct:=N,bk:=D.nx } σ2 H2):=by
 refine⟨fun i m σ H=>m=kvs.length-i∧i≤kvs.length∧Pv i σ H,⟨kvs.length,by simp,Nat.zero_le _,h0⟩,?_⟩
 rintro i m σ H ⟨rfl,hi,p⟩
 have q:=hl i σ H hi p
 by_cases hlt:i < kvs.length
 ·refine .inr ⟨⟨kvs,q,hlt⟩,Pv (i+1),fun σ' H' p'=>⟨kvs.length-(i+1),by omega,rfl,hlt,p'⟩,fun x H' y=>?_⟩
  obtain⟨e,y⟩:=y
  subst e
  obtain⟨kv,b,k1,rfl,k2⟩:=y kvs q
  exact hs i kv b σ _ k1 k2 p
 ·have e:i=kvs.length:=by omega
  subst e
  exact .inl ⟨⟨kvs,q,Nat.le_refl _⟩,hd σ H p⟩
theorem jma {tl:TE}{R:It→Hp→Prop} (q:tl σ H fun x H1=>∃ a o kvs,x=.ref a∧H1 a=some (.frz o (.dT kvs))∧R (ItdT a o) H1):iDT tl σ H R:=q
end
section
variable {K:PySem.W.Frag}{ts:List TT}{te:TE}{acc:Addr}{fr:St}{H1:Hp}{R:Hp→Prop}{a:Addr}{o:Obj}
theorem jcu {kvs:List (List Key × V)}{u:Option V} (hx:H1 a=some (.frz o (.dT kvs))) (hz:kvs.length≤1000000) (hn:H1 acc=none) (Pv:Nat→List V→Hp→Prop) (h0:Pv 0 [] H1) (kp:∀ i ys H H',Kp H H'→Pv i ys H→Pv i ys H') (len:∀ i ys H,i≤kvs.length→Pv i ys H→ys.length≤i)
  (turn:∀ i kv b ys H,kvs[i]?=some kv→H b=some (.tup (kv.1.map kV))→Ext H1 H→Pv i ys H→j8p ts te (Pv (i+1)) ys H (some (.ref b) :: fr) H)
  (fin:∀ ys H,Ext H1 H→H acc=some (.lst ys)→Pv kvs.length ys H→R H):ja9 (ItdT a o) (ja7 0) ts te acc (u :: fr) H1 R:=by
 refine j3x kvs.length hz hn (fun σ=>∃ u,σ=u :: fr) Pv ⟨u,rfl⟩ h0 kp (fun i H hi e=>⟨kvs,e _ _ hx,hi⟩) (fun H e=>⟨kvs,e _ _ hx,Nat.le_refl _⟩) len ?_ fin
 rintro i σ ys H x H' G hi e ⟨u,rfl⟩ pv ⟨rfl,y⟩ hG
 obtain⟨kv,b,k1,rfl,k2⟩:=y kvs (e _ _ hx)
 exact hG _ _ ⟨_,rfl⟩ (turn i kv b ys _ k1 k2 e pv)
end
inductive IsDc:HO→Prop
 | k (kvs:List (Key × V)):IsDc (.dK kvs)
 | t (kvs:List (List Key × V)):IsDc (.dT kvs)
theorem IsDc.obj {P:Program}{w:World}{H:Hp}{h:Heap}{a:Addr}{u:HO} (d:IsDc u) (ok:ObjOk P w H h a u):∃ o,h.get? a=some o:=by
 cases d with
 | k kvs=>obtain⟨_,_,_,_,o,_,_,g,_⟩:=ok;exact⟨o,g⟩
 | t kvs=>obtain⟨_,_,_,_,o,_,_,g,_⟩:=ok;exact⟨o,g⟩
theorem Inv.frz {X:Cx}{pins:List (Addr × Obj)}{σ:St}{H:Hp}{s:Shared}{a:Addr}{u:HO}{o:Obj} (I:Inv X pins σ H s) (e:H a=some u) (d:IsDc u) (ho:s.heap.get? a=some o):Inv X pins σ (upd H a (.frz o u)) s:=by
 have ne:∀ b v,H b=some v→v≠u→b≠a:=fun b v h n z=>by rw[z,e] at h;cases h;exact n rfl
 have keep:∀ b v,H b=some v→v≠u→upd H a (.frz o u) b=some v:=fun b v h n=>by rw[j08 (ne b v h n)];exact h
 refine I.un (h':=s.heap) (t':=s.toks) ⟨fun b o e n _ _=>e,fun b o e n _ _=>⟨o.slots,e⟩,fun b o _ n _=>?_,fun b o e _=>⟨o,e⟩,fun b xs h=>keep b _ h (by intro z;rw[← z] at d;cases d),fun b ob v h=>keep b _ h (by intro z;rw[← z] at d;cases d),fun b qs h=>⟨#[],by rw[keep b _ h (by intro z;rw[← z] at d;cases d)];simp⟩⟩ fun b v h=>?_
 ·rw[j08 (fun z=>by rw[z,e] at n;cases n)]
  exact n
 ·have st:∀ {v:HO},ObjOk X.prog X.w H s.heap b v→ObjOk X.prog X.w (upd H a (.frz o u)) s.heap b v:=fun x=>x.stay (fun _ _ _ q=>q) (fun c q=>keep c _ q (by intro z;rw[← z] at d;cases d)) fun c xs q=>keep c _ q (by intro z;rw[← z] at d;cases d)
  by_cases hb:b=a
  ·subst hb
   rw[j04] at h
   cases h
   exact⟨ho,st (I.hok b _ e)⟩
  ·rw[j08 hb] at h
   exact st (I.hok b _ h)
def rFrz (x:V) (H:Hp) (Q:VK):Prop:=∃ a u,x=.ref a∧H a=some u∧IsDc u∧∀ o,Q x (upd H a (.frz o u))
def tFrz (t:TE):TE:=fun σ H Q=>t σ H fun x H1=>rFrz x H1 Q
section
variable {X:Cx}{e:Expr}{t:TE}
theorem jbm (he:PE X e t):PE X e (tFrz t):=by
 intro pins s σ H Q I h
 refine thn (he pins s σ H _ I h) fun v s1 ⟨x,H1,I1,r1,a,u,ex,hu,d,q⟩=>?_
 subst ex
 obtain⟨o,ho⟩:=d.obj (I1.hok a _ hu)
 exact⟨.ref a,_,I1.frz hu d ho,r1,q o⟩
end
section
variable {K:PySem.W.Frag}{σ:St}{H:Hp}{Q:VK}{td ty tv t:TE}{p b:Addr}
theorem jjk (q:t σ H fun x H1=>rFrz x H1 Q):tFrz t σ H Q:=q
theorem jbn {kvs:List (List Key × V)} (h:H p=some (.dT kvs)) (q:∀ o H',H' p=some (.frz o (.dT kvs))→But p H H'→Q (.ref p) H'):rFrz (.ref p) H Q:=⟨p,_,rfl,h,.t _,fun o=>q o _ j04 j4k⟩
theorem j2h {kvs:List (List Key × V)}{k:List Key}{v:V} (h:Rd H p (.dT kvs)) (hb:H b=some (.tup (k.map kV))) (e:valV kvs k=some v) (q:Q v H):rDGet (.ref p) (.ref b) H Q:=⟨p,v,rfl,.inr ⟨kvs,k,b,h,rfl,hb,e.symm⟩,q⟩
theorem j4v {kvs:List (List Key × V)}{k:List Key}{v:V}{R:Hp→Prop} (h:H p=some (.dT kvs)) (hb:H b=some (.tup (k.map kV))) (hl:kvs.length < 1000000) (q:∀ H',H' p=some (.dT (putK kvs k v))→But p H H'→R H'):rDPut (.ref p) (.ref b) v H R :=
 ⟨p,_,rfl,DPut.t h hb (by rw[sizeLine_eq];omega),q _ j04 j4k⟩
def rNinK:R2:=fun x y H Q=>∃ a o,y=.ref a∧DGet H a x o∧Q (.bl (!o.isSome)) H
theorem jcv {kvs:List (List Key × V)}{k:List Key} (h:Rd H p (.dT kvs)) (hb:H b=some (.tup (k.map kV))) (q:Q (.bl (!(valV kvs k).isSome)) H):rNinK (.ref b) (.ref p) H Q:=⟨p,_,rfl,.inr ⟨kvs,k,b,h,rfl,hb,rfl⟩,q⟩
end
section
variable {X:Cx}
theorem ji0 {k:Nat} (hr:Room k X.A):OpR X (compareOp .NotIn) rNinK:=by
 skip;intro pins s σ H x y v u Q I rx ry h
 obtain⟨a,o,rfl,g,q⟩:=h
 cases ry
 exact jg4 (by have:=hr.un;omega) I g rx fun s' I'=>⟨.bl _,H,I',rfl,q⟩
end
def Itv (a:Addr) (n:Nat):It :=
 ⟨fun i H=>i < n∧∃ xs,H a=some (.lst xs)∧xs.length=n,fun i H x H'=>H'=H∧∀ xs,H a=some (.lst xs)→xs[n-1-i]?=some x,fun i _=>n≤i⟩
theorem jey {P:Program}{w:World}{K:PySem.W.Frag}{tg:Expr} (a it:Addr) (n:Nat):Turn P w K tg (Itv a n) [it] it (fun i h=>i≤n∧h.IsRevIter it a ((n:Int)-1-(i:Int))) where
 mem:=List.mem_singleton.mpr rfl
 obj:=fun i h st b hb=>by
  cases List.mem_singleton.mp hb
  obtain⟨_,u,e,_,d⟩:=st
  exact⟨u,e,fun v z=>by rw[d] at z;cases z⟩
 keep:=fun i h h' st k=>⟨st.1,let ⟨u,e,r⟩:=st.2;⟨u,k it (List.mem_singleton.mpr rfl) u e,r⟩⟩
 item:=by
  intro X hP hw hK hc i pins s σ H E I hf st hg
  subst hP hw hK
  obtain⟨hi,xs,hq,hx⟩:=hg
  obtain⟨its,rv,p,hz⟩:=I.list (SqL.of hq)
  have hl:=rv.length
  obtain⟨f0,f1,f2,f3,f4,f5⟩:=hf it (List.mem_singleton.mpr rfl)
  have hv:xs[n-1-i]?=some (xs[n-1-i]'(by omega)):=List.getElem?_eq_getElem (by omega)
  obtain⟨u,hu,ru⟩:=rv.get hv
  have e1:(n:Int)-1-(i:Int)=((n-1-i:Nat):Int):=by omega
  have st2:=st.2
  rw[e1] at st2
  refine wpAny_pyNext_rev_item st2 p.isList (x:=u) (by simpa using hu) fun h' st' sb=>?_
  have e2:((n-1-i:Nat):Int)-1=(n:Int)-1-((i+1:Nat):Int):=by omega
  rw[e2] at st'
  have I1:Inv X pins σ H { s with heap:=h' }:=I.turned (t':=s.toks) (fun b o hb e=>(sb.2 b hb).trans e) f0 f1 f3 f4 f5
  obtain⟨o,e,c,d⟩:=id st'
  exact⟨u,rfl,jja (s:={ s with heap:=h' }) e c d (by decide) ⟨_,H,I1,ru,⟨rfl,fun ys hy=>by rw[hq] at hy;cases hy;exact hv⟩,⟨hi,st'⟩,fun b hb=>(hf b hb).1⟩⟩
 done:=by
  intro X hP hw hK hc i pins s σ H E I hf st hg
  subst hP hw hK
  have hi:n≤i:=hg
  obtain⟨f0,f1,f2,f3,f4,f5⟩:=hf it (List.mem_singleton.mpr rfl)
  have e1:(n:Int)-1-(i:Int)=-1:=by have:=st.1;omega
  have st2:=st.2
  rw[e1] at st2
  exact wpAny_pyNext_rev_end (I.ok.hd hc) st2 fun h' eb=>⟨rfl,I.turned (t':=s.toks) (fun b o hb e=>eb b o hb e) f0 f1 f3 f4 f5⟩
 self:=fun _ _ _ _ _ st h=>wpAny_pyIter_revIter st.2 h
section
variable {X:Cx}{tg:Expr}
def iRev (ta:TA):TI:=fun σ H R=>ta σ H fun vs H1=>∃ a xs,vs=[.ref a]∧H1 a=some (.lst xs)∧R (Itv a xs.length) H1
theorem pi_rev {a:Expr}{ta:TA}{p pos:Pos} (hg:Gl X "reversed") (hm:X.mg "reversed"=none) (ha:PA X [a] ta) (hs:starEach [a] X.env=[(false,eval a X.env)]:=by rfl):PI X tg (.Call (.Name "reversed" p) [a] [] pos) (iRev ta):=by
 intro pins s σ H R I h
 refine Call_ (j25 I hg hm boot_reversed (PyProof.Rows.callWith_type1 (thn (ha pos pins s σ H _ I h) fun us s1 ⟨vs,H1,I1,r1,q1⟩=>?_) hs rfl))
 obtain⟨p1,xs,e,hx,q⟩:=q1
 subst e
 obtain⟨u,rfl,ru⟩:=j4a r1
 cases ru
 obtain⟨its,rv,pl,hz⟩:=I1.list (SqL.of hx)
 have hl:=rv.length
 refine call_reversed_list pl.isList ?_
 have st:(s1.heap.push (revObj p1 ((its.toArray.size:Int)-1))).IsRevIter s1.heap.objs.size p1 ((xs.length:Int)-1-((0:Nat):Int)):=⟨_,Heap.get?_push_size _ rfl,rfl,by rw[show (xs.length:Int)-1-((0:Nat):Int)=(its.toArray.size:Int)-1 by simp;omega];rfl⟩
 have I2:Inv X pins σ H1 { s1 with heap:=s1.heap.push (revObj p1 ((its.toArray.size:Int)-1)) }:=I1.kept (t':=s1.toks) fun b o e=>Heap.get?_push_of_some _ e
 refine wpAny_pyIter_revIter (s:={ s1 with heap:=s1.heap.push (revObj p1 ((its.toArray.size:Int)-1)) }) st ⟨s1.heap.objs.size,[s1.heap.objs.size],_,_,H1,rfl,I2,jey p1 _ xs.length,⟨Nat.zero_le _,st⟩,fun b hb=>?_,q⟩
 cases List.mem_singleton.mp hb
 exact I1.fpOk (Nat.le_refl _) (I1.hok.fresh (Nat.le_refl _))
end
section
variable {a:Addr}{g:TG}{tb:TS}{D:Ends}{σ:St}{H:Hp}
theorem ji1 {xs:List V} (Pv:Nat→St→Hp→Prop) (h0:Pv 0 σ H) (hl:∀ i σ H,i≤xs.length→Pv i σ H→H a=some (.lst xs))
  (hs:∀ i x σ H,i < xs.length→xs[xs.length-1-i]?=some x→Pv i σ H→g x σ H fun σ2 H2=>tb { D with nx:=Pv (i+1),ct:=Pv (i+1),bk:=D.nx } σ2 H2) (hd:∀ σ H,Pv xs.length σ H→D.nx σ H) :
  ∃ W:Nat→Nat→St→Hp→Prop,(∃ m,W 0 m σ H)∧∀ i m σ H,W i m σ H →
   ((Itv a xs.length).stop i H∧D.nx σ H)∨((Itv a xs.length).go i H∧∃ N:St→Hp→Prop,(∀ σ' H',N σ' H'→∃ m',m' < m∧W (i+1) m' σ' H')∧∀ x H',(Itv a xs.length).yld i H x H'→g x σ H' fun σ2 H2=>tb { D with nx:=N,ct:=N,bk:=D.nx } σ2 H2):=by
 refine⟨fun i m σ H=>m=xs.length-i∧i≤xs.length∧Pv i σ H,⟨xs.length,by simp,Nat.zero_le _,h0⟩,?_⟩
 rintro i m σ H ⟨rfl,hi,p⟩
 have q:=hl i σ H hi p
 by_cases hlt:i < xs.length
 ·refine .inr ⟨⟨hlt,xs,q,rfl⟩,Pv (i+1),fun σ' H' p'=>⟨xs.length-(i+1),by omega,rfl,hlt,p'⟩,fun x H' y=>?_⟩
  obtain⟨e,y⟩:=y
  subst e
  exact hs i x σ _ hlt (y xs q) p
 ·have e:i=xs.length:=by omega
  subst e
  exact .inl ⟨Nat.le_refl _,hd σ H p⟩
theorem r_irev {ta:TA}{R:It→Hp→Prop} (q:ta σ H fun vs H1=>∃ a xs,vs=[.ref a]∧H1 a=some (.lst xs)∧R (Itv a xs.length) H1):iRev ta σ H R:=q
end
theorem jbo:typeLookup (.type "list_reverseiterator") "__len__"=pure none:=by rw[typeLookup_type,builtinLookup_eq_fast];kernel_rfl
theorem jez:typeLookup (.type "list_reverseiterator") "__length_hint__"=pure (some (.builtin "list_reverseiterator.__length_hint__")):=by rw[typeLookup_type,builtinLookup_eq_fast];kernel_rfl
section
variable {prog:Program}{w:World}{A:Around}{E:Value→Shared→Prop}{s:Shared}
theorem jf0 {I l S:Addr}{xs:Array Value}{R:Result→Shared→Prop} (hh:A.handled=none) (hd:s.heap.IsRevIter I l ((xs.size:Int)-1)) (hl:s.heap.IsList l xs) (ne:l≠I) (nI:S≠I) (nl:S≠l) (hz:xs.size≤sizeLine) (hS:s.heap.get? S=some { cls:=.type "list",data:=.seq #[] })
  (hR:∀ s' acc' c',Moved [S,I] (fun a b=>b=a) s s'→s'.heap.get? S=some { cls:=.type "list",dict:=none,data:=.seq acc' c',slots:=#[] }→ItemsOf (fun i v=>xs[xs.size-1-i]?=some v) acc' xs.size→R (.ok (.ret .none)) s') :
  wpAny (model prog w) A.in1 (Builtin.«list.__init__» ⟨[.ref S,.ref I],[]⟩) (fun fin s'=>match fin with | .done f=>R (.ok f) s' | .again c'=>c'.quiet=true∧codeAny (model prog w) A c' R s') (fun e s'=>R (.error e) s') s:=by
 have W:=(Walks.listRev (prog:=prog) (w:=w) (A:=A.in1) hh I l ne xs).toS
 have nS:S∉[I,l]:=by
  simp only[List.mem_cons,List.mem_nil_iff,or_false,not_or]
  exact⟨nI,nl⟩
 have same:Builtin.List.listSameRef (.ref S) (.ref I)=false:=by simp[Builtin.List.listSameRef,nI]
 show wpAny _ A.in1 (do let old ← Builtin.List.listItems (.ref S);Builtin.List.listUpdate (.ref S) (fun _=>#[]);letGo old.toList.reverse;Builtin.List.listExtendWith (.ref S) (.ref I) .none) _ _ s;refine wpAny_bind ?_
 unfold Builtin.List.listItems;refine wpAny_bind (wpAny_seqItems hS rfl (wpAny_pure ?_))
 show wpAny _ A.in1 (updateSeq S (fun _=>#[]) >>= fun _=>letGo (#[]:Array Value).toList.reverse >>= fun _=>Builtin.List.listExtendWith (.ref S) (.ref I) .none) _ _ s;refine wpAny_bind (wpAny_updateSeq hS rfl ?_)
 have S2:=Heap.get?_update_self (Obj.mapSeq (fun _=>(#[]:Array Value))) hS rfl
 have oth:∀ b o,b≠S→s.heap.get? b=some o→(s.heap.update S (Obj.mapSeq (fun _=>(#[]:Array Value)))).get? b=some o:=fun b o hb e=>(Heap.get?_update_other _ _ (Ne.symm hb)).trans e
 refine wpAny_bind (wpAny_letGo ?_)
 have d2:(s.heap.update S (Obj.mapSeq (fun _=>(#[]:Array Value)))).IsRevIter I l ((xs.size:Int)-1):=hd.at fun o e=>oth I o (Ne.symm nI) e
 have l2:(s.heap.update S (Obj.mapSeq (fun _=>(#[]:Array Value)))).IsList l xs:=hl.at fun o e=>oth l o (Ne.symm nl) e
 have ty:Shared.TypeIs { s with heap:=s.heap.update S (Obj.mapSeq (fun _=>(#[]:Array Value))) } (.ref I) "list_reverseiterator":=d2.typeIs (s:={ s with heap:=s.heap.update S (Obj.mapSeq (fun _=>(#[]:Array Value))) })
 unfold Builtin.List.listExtendWith;refine wpAny_bind (wpAny_typeOf ty ?_)
 rw[if_neg (by rw[same];decide)]
 refine wpAny_bind (wpAny_pyIter_revIter (s:={ s with heap:=s.heap.update S (Obj.mapSeq (fun _=>(#[]:Array Value))) }) d2 (wpAny_bind (wpAny_holding ?_)))
 unfold Builtin.List.listLengthHint;refine wpAny_bind (wpAny_specialOf ty jbo ?_)
 show wpAny _ A.in1 (specialOf (Value.ref I) (Str.ofString "__length_hint__") >>= _) _ _ _;refine wpAny_bind (wpAny_specialOf ty jez ?_)
 (generalize hid:("list_reverseiterator.__length_hint__":String)=id0;(fail_if_success (clear hid id0));wp_delta;rw[show splitId id0=some ("list_reverseiterator","__length_hint__") from by subst hid;decide +kernel];subst hid)
 refine wpAny_bind (wpAny_isInstance (b:=true) ty (by rw[isSubtype_type];kernel_rfl) ?_)
 refine wpAny_pure ?_;rw[if_neg (by decide)]
 refine wpAny_pure ⟨plainId_quiet F.plain_extend_loop _,codeAny_extend_loopS W hz _ nS _ xs.size 0 _ _ _ rfl (Nat.zero_le _) ⟨Nat.zero_le _,?_,l2⟩ S2 (ItemsOf.nil _) fun s' acc' c' hm hS' hacc=>hR s' acc' c' ⟨fun b o hb e=>?_,hm.gens,hm.drawn,hm.os,hm.toks⟩ hS' hacc⟩
 ·rw[show (xs.size:Int)-1-((0:Nat):Int)=(xs.size:Int)-1 by omega]
  exact d2
 ·have nb:b≠S:=fun z=>hb (by rw[z];exact List.mem_cons_self)
  exact hm.heap b o hb (oth b o nb e)
theorem j5v {I l:Addr}{xs:Array Value}{Q:Value→Shared→Prop} (hh:A.handled=none) (hd:s.heap.IsRevIter I l ((xs.size:Int)-1)) (hl:s.heap.IsList l xs) (ne:l≠I) (hz:xs.size≤sizeLine)
  (hQ:∀ s' acc' c',Moved [s.heap.objs.size,I] (fun a b=>b=a) { s with heap:=s.heap.push { cls:=.type "list",data:=.seq #[] } } s'→s'.heap.get? s.heap.objs.size=some { cls:=.type "list",dict:=none,data:=.seq acc' c',slots:=#[] }→ItemsOf (fun i v=>xs[xs.size-1-i]?=some v) acc' xs.size→Q (.ref s.heap.objs.size) s'):wpAny (model prog w) A (call (.type "list") [.ref I]) Q E s:=by
 have lI:I < s.heap.objs.size:=by obtain⟨o,e,_⟩:=hd;exact Heap.lt_size e
 have ll:l < s.heap.objs.size:=by obtain⟨o,e,_⟩:=hl;exact Heap.lt_size e
 refine callType_codes (Q₁:=fun obj s₁=>obj=.ref s.heap.objs.size∧s₁={ s with heap:=s.heap.push { cls:=.type "list",data:=.seq #[] } }) F.called_list (F.typeCall_list_1 _) F.entry_list_init (code_list_new _ ⟨rfl,rfl⟩) fun obj s₁ h₁=>?_
 obtain⟨rfl,rfl⟩:=h₁
 skip;have hS:(s.heap.push { cls:=.type "list",data:=.seq #[] }).get? s.heap.objs.size=some { cls:=.type "list",data:=.seq #[] }:=Heap.get?_push_size _ rfl
 refine⟨⟨_,hS,rfl⟩,F.args_list_init_2 _ _,jf0 (s:={ s with heap:=s.heap.push { cls:=.type "list",data:=.seq #[] } }) hh (hd.at fun o e=>Heap.get?_push_of_some _ e) (hl.at fun o e=>Heap.get?_push_of_some _ e) ne (Nat.ne_of_gt lI) (Nat.ne_of_gt ll) hz hS fun s' acc' c' hm hS' hacc=>?_⟩
 skip;exact⟨rfl,hQ s' acc' c' hm hS' hacc⟩
end
section
variable {X:Cx}
def j9p:List V→Hp→VK→Prop:=fun xs H Q=>∃ p ys,xs=[.ref p]∧H p=some (.lst ys)∧∀ l,H l=none→Q (.ref l) (upd H l (.lst ys.reverse))
theorem j9q {a:Expr}{ta:TA}{p p' pos pos':Pos} (hc:X.calm=true) (hg:Gl X "list") (hm:X.mg "list"=none) (hg2:Gl X "reversed") (hm2:X.mg "reversed"=none) (ha:PA X [a] ta) (hs:starEach [a] X.env=[(false,eval a X.env)]:=by rfl)
  (ht:starEach [.Call (.Name "reversed" p') [a] [] pos'] X.env=[(false,eval (.Call (.Name "reversed" p') [a] [] pos') X.env)]:=by rfl) :
  PE X (.Call (.Name "list" p) [.Call (.Name "reversed" p') [a] [] pos'] [] pos) (tCB j9p ta):=by
 skip;intro pins s σ H Q I h
 refine wpAny_Call_Name_kw (j25 I hg hm PyProof.Rows.boot_list (PyProof.Rows.callWith_type1 ?_ ht rfl) (by decide) (by decide));rw[ht]
 show wpAny _ _ (spliced ((false,eval (.Call (.Name "reversed" p') [a] [] pos') X.env) :: backTo pos [])) _ _ s
 refine Calls.spliced_cons (wpAny_Call_Name_kw (j25 I hg2 hm2 boot_reversed (PyProof.Rows.callWith_type1 (thn (ha pos' pins s σ H _ I h) fun us s1 ⟨vs,H1,I1,r1,q1⟩=>?_) hs rfl) (by decide) (by decide)))
 obtain⟨p1,ys,e,hx,q⟩:=q1
 subst e
 obtain⟨u,rfl,ru⟩:=j4a r1
 cases ru
 obtain⟨its,ri,pl,hz⟩:=I1.list (SqL.of hx)
 have hl:=ri.length
 have z1:its.toArray.size≤sizeLine:=by rw[List.size_toArray];omega
 refine call_reversed_list pl.isList (Calls.spliced_nil ?_)
 have lp:p1 < s1.heap.objs.size:=by obtain⟨o,ho,_⟩:=pl.isList;exact Heap.lt_size ho
 refine j5v (s:={ s1 with heap:=s1.heap.push (revObj p1 ((its.toArray.size:Int)-1)) }) (I1.ok.hd hc) ⟨_,Heap.get?_push_size _ rfl,rfl,rfl⟩ (pl.isList.at fun o e=>Heap.get?_push_of_some _ e) (Nat.ne_of_lt lp) z1 fun s' acc c hm hS hacc=>?_
 have e:=je2 hacc
 have n1:H1 s1.heap.objs.size=none:=I1.hok.fresh (Nat.le_refl _)
 obtain⟨h',g',d',t',o'⟩:=s'
 have e1:g'=s1.gens:=hm.gens
 have e2:d'=s1.drawn:=hm.drawn
 have e3:o'=s1.os:=hm.os
 subst e1 e2 e3
 have sz:(s1.heap.push (revObj p1 ((its.toArray.size:Int)-1))).objs.size=s1.heap.objs.size+1:=Heap.size_push ..
 have kk:∀ b o,s1.heap.get? b=some o→h'.get? b=some o:=fun b o e=>by
  have lb:=Heap.lt_size e
  refine hm.heap b o (fun z=>?_) (Heap.get?_push_of_some _ (Heap.get?_push_of_some _ e))
  rcases List.mem_cons.mp z with z | z
  ·exact Nat.ne_of_lt (Nat.lt_succ_of_lt lb) (by rw[sz] at z;exact z)
  ·exact Nat.ne_of_lt lb (List.mem_singleton.mp z)
 have hS':h'.get? (s1.heap.objs.size+1)=some { cls:=.type "list",dict:=none,data:=.seq acc c,slots:=#[] }:=by rw[← sz];exact hS
 have I3:Inv X pins σ (upd H1 (s1.heap.objs.size+1) (.lst ys.reverse)) { s1 with heap:=h',toks:=t' } :=
  I1.laid (t':=t') kk (Nat.le_succ _) (show ObjOk X.prog X.w _ _ _ (.lst ys.reverse) from⟨by rw[List.length_reverse];exact hz,its.reverse,c,Vals.reverse ri,by rw[hS',← e]⟩)
 refine⟨.ref (s1.heap.objs.size+1),_,I3,by rw[sz];rfl,q _ (I1.hok.fresh (Nat.le_succ _))⟩
end
section
variable {H:Hp}{Q:VK}
theorem jbp {p:Addr}{xs:List V} (h:H p=some (.lst xs)) (q:∀ l H',H l=none→H' l=some (.lst xs.reverse)→Ext H H'→Q (.ref l) H'):j9p [.ref p] H Q:=⟨p,xs,rfl,h,fun l n=>q l _ n j04 (j0g n)⟩
end
theorem xd_sub:isSubtype (.type "dict") (.type "dict")=pure true:=by rw[isSubtype_type];kernel_rfl
theorem jf1 {prog:Program}{w:World}{A:Around} (hh:A.handled=none) (I d:Addr) (nd:d≠I) {o:Obj}{es:Array DictEntry}{ep:Nat} (hc:o.ExactDict) (hd:o.data=.dict es ep) :
  Walks prog w A I [I,d] [I] es.size (fun i v=>(es[i]?).map (·.key)=some v) (fun i h=>h.IsKeyIter I d i es.size ep∧h.get? d=some o) where
 sub:=fun b hb=>by rw[List.mem_singleton.mp hb];simp
 frame:=fun _ _ _ x hk=>⟨let ⟨u,e,r⟩:=x.1;⟨u,hk I (by simp) u e,r⟩,hk d (by simp) _ x.2⟩
 item:=fun i s Q E hi x (hQ)=>by
  refine jcs x.1 x.2 hc hd hi fun h' st' sb=>?_
  refine hQ _ h' s.toks ?_ ⟨st',(sb.2 d nd).trans x.2⟩ fun b u hb eu=>sb.extBut b u (fun h=>hb (by simp[h])) eu
  rw[Array.getElem?_eq_getElem hi]
  rfl
 done:=fun s Q E x hQ=>jhz hh x.1 x.2 hc hd (Nat.le_refl _) fun h' he'=>hQ h' s.toks fun b u hb eu=>he' b u (fun h=>hb (by simp[h])) eu
 self:=fun _ _ _ _ x hQ=>jct x.1 hQ
section
variable {prog:Program}{w:World}{A:Around}{E:Value→Shared→Prop}{s:Shared}
theorem j9r {d:Addr}{o:Obj}{es:Array DictEntry}{ep:Nat}{Q:List Value→Shared→Prop} (hh:A.handled=none) (lo:(d == sysModules)=false) (hS:s.heap.get? d=some o) (hc:o.ExactDict) (hd:o.data=.dict es ep) (hz:es.size≤sizeLine)
  (hQ:∀ s' acc,Moved [] (fun a b=>b=a) s s'→s.heap.objs.size < s'.heap.objs.size→ItemsOf (fun i v=>(es[i]?).map (·.key)=some v) acc es.size→Q acc.toList s'):wpAny (model prog w) A (collect (.ref d)) Q E s:=by
 have lS:d < s.heap.objs.size:=Heap.lt_size hS
 have nd:s.heap.objs.size≠d:=Nat.ne_of_gt lS
 unfold collect;refine wpAny_bind (wpAny_runValue (codeAny_builtin F.entry_proto_collect ?_));rw[Around.under_plainId F.plain_proto_collect _]
 show wpAny _ A.in1 (newList [] >>= fun x=>again (.builtin "list.__iadd__" ⟨[x,.ref d],[]⟩)) _ _ s
 refine wpAny_bind (wpAny_newObj_type (wpAny_pure ⟨plainId_quiet F.plain_list_iadd _,codeAny_builtin F.entry_list_iadd ?_⟩));rw[Around.under_plainId F.plain_list_iadd _]
 have d1:(s.heap.push { cls:=.type "list",data:=.seq ([]:List Value).toArray }).get? d=some o:=Heap.get?_push_of_some _ hS
 have S1:(s.heap.push { cls:=.type "list",data:=.seq ([]:List Value).toArray }).get? s.heap.objs.size=some { cls:=.type "list",data:=.seq ([]:List Value).toArray }:=Heap.get?_push_size _ rfl
 have same:Builtin.List.listSameRef (.ref s.heap.objs.size) (.ref d)=false:=by simp[Builtin.List.listSameRef,nd]
 show wpAny _ A.in1 (Builtin.List.listExtendWith (.ref s.heap.objs.size) (.ref d) (.ref s.heap.objs.size)) _ _ _;unfold Builtin.List.listExtendWith
 refine wpAny_bind (wpAny_typeOf (T:="dict") ⟨_,d1,hc.1⟩ ?_)
 rw[if_neg (by rw[same];decide)]
 refine wpAny_bind (jcr lo d1 hc hd fun h2 st2 k2=>wpAny_bind (wpAny_holding ?_))
 have n1:(s.heap.push { cls:=.type "list",data:=.seq ([]:List Value).toArray }).objs.size=s.heap.objs.size+1:=by rw[Heap.size_push]
 rw[show ({ s with heap:=s.heap.push { cls:=.type "list",data:=.seq ([]:List Value).toArray } }:Shared).heap.objs.size=s.heap.objs.size+1 from n1] at st2
 rw[n1]
 have d2:=k2 _ _ d1
 have S2:=k2 _ _ S1
 have te:Shared.TypeIs { s with heap:=h2 } (.ref d) "dict":=⟨_,d2,hc.1⟩
 unfold Builtin.List.listLengthHint;refine wpAny_bind (wpAny_specialOf (T:="dict") te PySem.F.slot_dict_len.lookup ?_)
 (generalize hid:("dict.__len__":String)=id0;(fail_if_success (clear hid id0));wp_delta;rw[show splitId id0=some ("dict","__len__") from by subst hid;decide +kernel];subst hid)
 refine wpAny_bind (wpAny_isInstance (T:="dict") (b:=true) te xd_sub ?_)
 rw[if_neg (by decide)];rw[if_pos (by decide +kernel)]
 refine wpAny_bind (wpAny_typeOf (T:="dict") te (wpAny_pure ?_))
 rw[if_pos (by decide +kernel)]
 refine wpAny_bind (wpAny_rule (wpAny_bind ?_))
 have S3:=Heap.get?_update_self (Obj.mapSeq (·.push Value.none)) S2 rfl
 show wpAny _ A.in1 (updateSeq s.heap.objs.size (·.push .none) >>= fun _=>updateSeq s.heap.objs.size (·.pop)) _ _ _;refine wpAny_bind (wpAny_updateSeq S2 rfl (wpAny_updateSeq S3 rfl ?_))
 have S4:=Heap.get?_update_self (Obj.mapSeq (·.pop)) S3 rfl
 have oth:∀ b u,b≠s.heap.objs.size→h2.get? b=some u→((h2.update s.heap.objs.size (Obj.mapSeq (·.push Value.none))).update s.heap.objs.size (Obj.mapSeq (·.pop))).get? b=some u :=
  fun b u nb e=>(Heap.get?_update_other _ _ (Ne.symm nb)).trans ((Heap.get?_update_other _ _ (Ne.symm nb)).trans e)
 have neI:d≠s.heap.objs.size+1:=Nat.ne_of_lt (Nat.lt_succ_of_lt lS)
 have W:=(jf1 (prog:=prog) (w:=w) (A:=A.in1) hh (s.heap.objs.size+1) d neI hc hd).toS
 have nS:s.heap.objs.size∉[s.heap.objs.size+1,d]:=by
  simp only[List.mem_cons,List.mem_nil_iff,or_false,not_or]
  exact⟨Nat.ne_of_lt (Nat.lt_succ_self _),nd⟩
 refine wpAny_pure ⟨plainId_quiet F.plain_extend_loop _,codeAny_extend_loopS W hz _ nS _ es.size 0 _ _ _ rfl (Nat.zero_le _) ⟨?_,oth d _ nd.symm d2⟩ S4 (ItemsOf.nil _) fun s' acc' c' hm hS' hacc=>wpAny_bind (wpAny_load hS' (wpAny_pure (hQ s' acc' ⟨fun b u _ e=>?_,hm.gens,hm.drawn,hm.os,hm.toks⟩ (Heap.lt_size hS') hacc)))⟩
 ·obtain⟨u,e,r⟩:=st2
  exact⟨u,oth _ _ (Nat.ne_of_gt (Nat.lt_succ_self _)) e,r⟩
 ·have lb:=Heap.lt_size e
  refine hm.heap b u (fun q=>?_) (oth b u (Nat.ne_of_lt lb) (k2 _ _ (Heap.get?_push_of_some _ e)))
  skip;rcases List.mem_cons.mp q with q | q
  ·exact Nat.ne_of_lt lb q
  ·exact Nat.ne_of_lt (Nat.lt_succ_of_lt lb) (List.mem_singleton.mp q)
theorem ji2 {es:Array DictEntry}{acc:Array Value} (h:ItemsOf (fun i v=>(es[i]?).map (·.key)=some v) acc es.size):acc.toList=es.toList.map (·.key):=by
 refine j2x (P:=fun i v=>(es[i]?).map (·.key)=some v) (by rw[List.length_map,Array.length_toList];exact h) fun i v hv=>?_
 rw[List.getElem?_map,Array.getElem?_toList]
 exact hv
end
structure LamC1 (sc:Scope) (x y:Str):Prop where
 kind:sc.kind=.function
 co:sc.isCoroutine=false
 gen:sc.isGenerator=false
 nc:∀ z∈sc.names,z.2≠.cell
 par:sc.names.lookup x=some .local
 fre:sc.names.lookup y=some .free
 only:∀ z∈sc.names,z.2=.free→z.1=y
structure LamC2 (sc:Scope) (x y:Str) (rest:List (Str × NameKind)):Prop where
 kind:sc.kind=.function
 co:sc.isCoroutine=false
 gen:sc.isGenerator=false
 names:sc.names=(x,.cell) :: rest
 nc:∀ z∈rest,z.2≠.cell
 ne:x≠y
 fre:sc.names.lookup y=some .free
 only:∀ z∈sc.names,z.2=.free→z.1=y
abbrev LAC (α:Type):=List (Addr × Obj)→Addr→Addr→Shared→Addr→Hp→α
theorem But.tk {P:Addr}{H H':Hp}{ps:Array Value} (hP:H P=some (.tbl ps)) (e:But P H H'):ExtT H H':=fun b o h n=>e b o (fun z=>by rw[z,hP] at h;cases h;cases n) h
theorem TabR.is {H:Hp}{P:Addr}{pos:Pos}{qual:Str} (h:TabR H P pos qual):∃ ps,H P=some (.tbl ps):=by
 rcases h with h | ⟨c,h,_⟩
 ·exact⟨_,h⟩
 ·exact⟨_,h⟩
section
variable {X:Cx}{pins:List (Addr × Obj)}{σ:St}{H:Hp}{s:Shared}
theorem jbq {A:Around}{E:Value→Shared→Prop}{P c:Addr}{params:Arguments}{body:Expr}{scope:Scope}{pos:Pos}{clos:List (Str × Addr)}{Q:Value→Shared→Prop} (I:Inv X pins σ H s) (hcd:X.env.code=.ref c) (hC:PySem.W.codeHdIn X.K c P=true)
  (hT:TabR H P pos (X.env.qual++"<lambda>")) (hdef:defaultsOf params X.env=([],[])) (hcl:closureFor scope X.env=pure clos)
  (h:∀ (f c':Addr) (pm ctv:Value) (H':Hp) (s':Shared),Inv X (pins++[(f,PySem.W.kla_obj "<lambda>" (X.env.qual++"<lambda>") params body scope clos pm c' ctv)]) σ H' s'→CodeH H' c' (X.env.qual++"<lambda>")→TabR H' P pos (X.env.qual++"<lambda>")→But P H H'→Q (.ref f) s') :
  wpAny (model X.prog X.w) A (eval (.Lambda params body scope pos) X.env) Q E s:=by
 have hg:=I.mod.glob.keeps I.bk
 have C:=PySem.W.codeHd_of_K I.kIn hC
 have tab:∀ {ps:Array Value},H P=some (.tbl ps)→s.heap.get? P=some (PySem.W.tabObj ps):=fun e=>(show ObjOk X.prog X.w H s.heap P (.tbl _) from I.hok P _ e)
 obtain⟨ps0,hP0⟩:∃ ps,s.heap.get? P=some (PySem.W.tabObj ps):=by
  rcases hT with hT | ⟨c',hT,_⟩
  ·exact⟨_,tab hT⟩
  ·exact⟨_,tab hT⟩
 have gnP:mainGlobals≠P:=fun q=>by
  obtain⟨o,es,ep,e,hd,_⟩:=hg
  rw[q,hP0] at e;cases e;cases hd
 obtain⟨bm,ob,b1,b2,b3,b4,b5,b6⟩:=I.mod.bmain
 have b3':=I.bk _ _ b3
 have hbP:bm≠P:=fun q=>by rw[q,hP0] at b3';cases b3';cases b4
 have bnG:bm≠mainGlobals:=fun q=>by
  obtain⟨o,es,ep,e,hd,_⟩:=hg
  rw[q,e] at b3';cases b3';rw[hd] at b6;cases b6
 have pinned:∀ {H':Hp}{h2:Heap}{o:Obj}{tk:Nat},Inv X pins σ H' { s with heap:=h2,toks:=tk }→(∀ v,o.data≠.cell v)→o.isFreed=false →
   Inv X (pins++[(h2.objs.size,o)]) σ H' { s with heap:=h2.push o,toks:=tk }:=fun {H' h2 o tk} J hd hfr=>by
  have J2:Inv X pins σ H' { s with heap:=h2.push o,toks:=tk }:=J.kept fun b u e=>Heap.get?_push_of_some _ e
  refine J2.pins_of fun p hp=>?_
  skip;rcases List.mem_append.mp hp with z | z
  ·exact J2.pin p (List.mem_append_right _ z)
  ·rw[List.mem_singleton.mp z]
   exact⟨Heap.get?_push_size _ hfr,J.hok.fresh (Nat.le_refl _),Nat.ne_of_gt J.lt,J.nofs (Nat.le_refl _),hd⟩
 refine PySem.W.kla_eval hdef ?_
 rcases hT with hT | ⟨c',hT,hcc⟩
 ·refine PySem.W.kla_makeFunction hcl I.ok.glob hg hcd C (tab hT) trivial rfl gnP ⟨bm,ob,b1,b2,bnG,hbP,b3',b4,b5,b6⟩ fun c' ctv h' tk hx hge hlt hrec htb=>?_
  obtain⟨c2,oc,vs,t,e2,hoc,hd,hv⟩:=hrec
  cases e2
  have J:=jbi (t':=tk) I hT hx hge hoc htb
  have nc:H c'=none:=I.hok.fresh hge
  have hcc:CodeH (upd (upd H P (.tbl (#[]++#[rawInt pos.line,rawInt pos.col,.ref c']))) c' (.frz oc (.own c'))) c' (X.env.qual++"<lambda>"):=⟨oc,vs,t,j04,hd,hv⟩
  refine h _ c' _ ctv _ _ (pinned J (fun v z=>by cases z) rfl) hcc (.inr ⟨c',?_,hcc⟩) fun b o n e=>?_
  ·rw[j08 (j05 hT nc),j04]
   rfl
  ·rw[j08 (j05 e nc),j08 n]
   exact e
 ·refine PySem.W.kla_makeFunctionHit hcl I.ok.glob hg hcd C (tab hT) trivial (cv:=.ref c') (codeAmong_snoc [] trivial rfl) ⟨bm,ob,b1,b2,bnG,hbP,b3',b4,b5,b6⟩ fun ctv h' tk hk hsz=>?_
  have J:Inv X pins σ H { s with heap:=h',toks:=tk }:=I.kept hk
  exact h _ c' _ ctv H _ (pinned J (fun v z=>by cases z) rfl) hcc (.inr ⟨c',hT,hcc⟩) fun b o _ h=>h
end
def ji3 (κ:Type) (KR:(Nat→κ)→Hp→V→Nat→Prop) (lt:(Nat→κ)→Nat→Nat→Bool) (P:Addr) (lp:Pos) (qual:Str) (t:TA) (js:List Nat) (tb:LA TE):TE:=fun σ H Q=>t σ H fun vs H1 =>
 ∃ (l:Addr) (xs:List V) (tp:Bool) (kf:Nat→κ),vs=[.ref l]∧H1 l=some (srcO tp xs)∧0 < xs.length∧TabR H1 P lp qual ∧
  (∀ i x,xs[i]?=some x→∀ pins f c s Hc H2,ExtT H1 H2→tb pins f c s Hc (lSt x js σ) H2 fun kv H3=>KR kf H3 kv i∧Ext H2 H3) ∧
  ∀ x H2,xs[j2d (lt kf) (xs.length-1)]?=some x→ExtT H1 H2→But P H1 H2→TabR H2 P lp qual→Q x H2
section
variable {X:Cx}{κ:Type}{KR:(Nat→κ)→Hp→V→Nat→Prop}{lt:(Nat→κ)→Nat→Nat→Bool}{k:Nat}{c P:Addr}{p pos lp kp:Pos}{e lb:Expr}{t:TA}{params:Arguments}{sc:Scope}{cl:List (Str × Addr)}{x:Str}{fr:List Str}{js:List Nat}{tb:LA TE}
theorem j9s (KY:∀ σ kf,Keyed X X.A.in1 σ (KR kf) (lt kf)) (hr:Room (k+2) X.A) (hg:Gl X "min") (hm:X.mg "min"=none) (ha:PA X [e] t) (hcd:X.env.code=.ref c) (hC:PySem.W.codeHdIn X.K c P=true) (hdef:defaultsOf params X.env=([],[])) (O:LamOk X sc cl x fr js)
  (hbind:∀ pm cd ct u,bindArgs (PySem.W.kla_fn "<lambda>" (X.env.qual++"<lambda>") params lb sc cl pm cd ct) ⟨[u],[]⟩=pure [(x,u)])
  (hb:∀ pins f c' s Hc,PE (jjj X pins (x :: fr) (X.env.qual++"<lambda>") sc cl f c' X.A.in1 s Hc) lb (tb pins f c' s Hc))
  (he:starEach [e] X.env=[(false,eval e X.env)]:=by rfl) :
  PE X (.Call (.Name "min" p) [e] [⟨some "key",.Lambda params lb sc lp,kp⟩] pos) (ji3 κ KR lt P lp (X.env.qual++"<lambda>") t js tb):=by
 intro pins s σ H Q I h
 refine wpAny_Call_Name_kw (j25 I hg hm (u:=.builtin "min") rfl ?_ (by decide) (by decide))
 refine callWith_kw (thn (ha pos pins s σ H _ I h) fun us s1 ⟨vs,H1,I1,r1,q1⟩=>?_) (by rw[he];rfl) (by rw[he];rfl)
 obtain⟨l,xs,tp,kf,rfl,hl,hne,hT,hturn,hfin⟩:=q1
 obtain⟨u,rfl,ru⟩:=j4a r1
 cases ru
 refine kws_cons (jbq I1 hcd hC hT hdef (j1d O.clos) fun f c' pm ctv H2 s2 I2 hc2 hT2 b2=>kws_nil ?_)
 obtain⟨ps0,hP0⟩:=hT.is
 have e2:ExtT H1 H2:=But.tk hP0 b2
 show wpAny _ _ (call (.builtin "min") [.ref l] [(Str.ofString "key",.ref f)]) _ _ _
 refine mk_min (G:=fun H=>H l=some (srcO tp xs)∧(ExtT H1 H∧But P H1 H)∧TabR H P lp (X.env.qual++"<lambda>")∧CodeH H c' (X.env.qual++"<lambda>")) (tp:=tp) (xs:=xs) (KR:=KR kf) (lt:=lt kf) hr.hd I2 ⟨e2 _ _ hl (jew _ _),⟨e2,b2⟩,hT2,hc2⟩ (KY σ kf)
  ⟨fun e ⟨g1,g2,g3,g4⟩=>⟨e _ _ g1,⟨g2.1.tr (Ext.toT e),fun b o n h=>e _ _ (g2.2 b o n h)⟩,g3.ext e,g4.mono (Ext.toT e)⟩,fun⟨g1,_⟩=>jhy g1,fun {ps H3 s3 i y v E} hps I3 ⟨g1,g2,g3,g4⟩ hy rv=>?_⟩ hne fun {H3 s3 y v} hy rv I3 ⟨g1,g2,g3,g4⟩=>?_
 ·exact jev I3 O I3.ok.frames hr.in1 (hps _ (List.mem_append_right _ (.head _))) g4 rv (hbind _ _ _ _) (hb ps f c' s3 H3) (hturn i y hy ps f c' s3 H3 H3 g2.1)
 ·exact⟨y,H3,I3.pins_of (fun p hp=>I3.pin p (List.mem_append_right _ (List.mem_append_left _ hp))),rv,hfin y H3 hy g2.1 g2.2 g3⟩
end
section
variable {X:Cx}
theorem j7b (L:List Str):(L.map (Sum.inr:Str→Key)).map kV=L.map V.str:=by rw[List.map_map];rfl
end
section
variable {prog:Program}{w:World}{A:Around}{E:Value→Shared→Prop}{s:Shared}{K:Type} [DecidableEq K] {knd:HeapKind prog w K}
theorem jf2 {pairs:List (Sem Value × Sem Value)}{Q:Addr→Shared→Prop} (hu:knd.room A) (hlen:pairs.length≤15)
  (h:wpAny (model prog w) A (evalPairs pairs) (fun vs s₁=>∃ (b:Addr) (v:Value) (ks:K),vs=[(.ref b,v)]∧knd.is s₁.heap ks b∧s₁.heap.DictOfH knd s.heap.objs.size [] ∧
   ∀ h' tk,h'.DictOfH knd s.heap.objs.size [(ks,b,v)]→Heap.SameBut s.heap.objs.size s₁.heap h'→Q s.heap.objs.size { s₁ with heap:=h',toks:=tk }) E { s with heap:=s.heap.push { cls:=.type "dict",data:=.dict #[] } }):wpAny (model prog w) A (subDict pairs) Q E s:=by
 unfold subDict
 refine wpAny_bind (wpAny_alloc (wpAny_bind (wpAny_holding ?_)))
 rw[if_pos hlen]
 skip;refine wpAny_bind (wpAny_mono h (fun vs s₁ h₁=>?_) fun _ _ e=>e)
 obtain⟨b,v,ks,rfl,hk,hm,hQ⟩:=h₁
 skip;refine wpAny_holding (wpAny_bind ?_)
 rw[List.forIn_cons]
 refine wpAny_bind (wpAny_bind (wpAny_dictSet_heap hu hk hm (fun h' hm' hs'=>wpAny_pure ?_) (by simp)))
 dsimp only;rw[List.forIn_nil]
 exact wpAny_pure (wpAny_pure (wpAny_pure (hQ h' _ hm' hs')))
end
def jf3 (p:Addr) (ps:List (V × V)) (H:Hp) (Q:VK):Prop:=∃ x y,ps=[(x,y)]∧H p=some (.dT [])∧∃ b ks,x=.ref b∧H b=some (.tup (ks.map kV))∧Q (.ref p) (upd H p (.dT [(ks,y)]))
def ji4 (tk tv:TE):TE:=fun σ H Q=>∀ p,H p=none→jdj [(tk,tv)] σ (upd H p (.dT [])) fun ps H2=>jf3 p ps H2 Q
theorem j9t {X:Cx}{pos:Pos}{k v:Expr}{tk tv:TE}{j:Nat} (hr:Room j X.A) (hk:PE X k tk) (hv:PE X v tv):PE X (.Dict [some k] [v] pos) (ji4 tk tv):=by
 skip;intro pins s σ H Q I q
 have hn:=I.hok.fresh (Nat.le_refl s.heap.objs.size)
 have I1:=I.laid (a:=s.heap.objs.size) (o:=.dT []) (h':=s.heap.push { cls:=.type "dict",data:=.dict #[] }) (t':=s.toks) (fun _ _ q=>Heap.get?_push_of_some _ q) (Nat.le_refl _) (j8g s.heap I.big)
 have hp:PPs X pos [some k] [v] [(tk,tv)]:=jdk hk hv jg9
 have un:=hr.un
 have ln:(pairTrees [some k] [v] X.env pos).length=1:=pairTrees_length [some k] [v] X.env pos rfl rfl
 rw[arm_eval_Dict,zip_pairTrees [some k] [v] X.env pos rfl rfl,dictDisplay_pairs _ (fun z=>by rw[z] at ln;cases ln) (by rw[ln];decide)]
 refine wpAny_bind (wpAny_standAt (wpAny_bind (jf2 (knd:=tupleKind (j0r X.prog X.w)) (show X.A.units < cLine by omega) (by rw[ln];decide) (thn (hp pins _ σ _ _ I1 (q _ hn)) fun ws s2 ⟨ps,H2,I2,rel,x,y,ep,e,b,ks,ex,hb,q2⟩=>?_))))
 ·subst ep ex
  cases rel with
  | @cons _ w1 _ _ h1 h2 =>
   cases h2
   obtain⟨u1,u2⟩:=w1
   cases (show u1=Value.ref b from h1.1)
   obtain⟨z,hd,xs,relx,dd⟩:=jkb I2.hok e
   cases relx
   refine⟨b,u2,ks,rfl,j8e I2.hok hb,dd,fun h' tk' dd' hs=>wpAny_pure ⟨.ref s.heap.objs.size,_,?_,rfl,q2⟩⟩
   obtain⟨qo,es,ep,hq,h2,h3,h4,_,h5⟩:=dd'
   have nb:b≠s.heap.objs.size:=ne_of hb e (fun z=>nomatch z)
   exact j8f I2 (by rw[e];exact True.intro) hs ⟨qo,hq⟩ ⟨by show 1≤sizeLine;rw[sizeLine_eq];decide,hd,[(ks,b,u2)],.cons ⟨rfl,by rw[j08 nb];exact hb,h1.2⟩ .nil,qo,es,ep,hq,h2,h3,h4,h5⟩
section
variable {K:PySem.W.Frag}{σ:St}{H:Hp}{Q:VK}{p b:Addr}
theorem jcw {tk tv:TE} (q:∀ p H',H p=none→H' p=some (.dT [])→Ext H H'→tk σ H' fun x H2=>tv σ H2 fun v H3=>jf3 p [(x,v)] H3 Q):ji4 tk tv σ H Q:=fun p n=>q p _ n j04 (j0g n)
theorem j9u {v:V}{ks:List Key} (h:H p=some (.dT [])) (hb:H b=some (.tup (ks.map kV))) (q:∀ H',H' p=some (.dT [(ks,v)])→But p H H'→Q (.ref p) H'):jf3 p [(.ref b,v)] H Q:=⟨_,_,rfl,h,b,ks,rfl,hb,q _ j04 j4k⟩
theorem jcx (q:∀ p H',H p=none→H' p=some (.dT [])→Ext H H'→Q (.ref p) H'):jg8 σ H Q:=fun p n=>q p _ n j04 (j0g n)
end
section
variable {prog:Program}{w:World}{A:Around}{E:Value→Shared→Prop}{s:Shared}
theorem j9v {d:Addr} (hd:(d == sysModules)=false):MeetsIn prog w (Builtin.«dict.__len__» ⟨[.ref d],[]⟩) (fun _ R s=>∃ o es ep,s.heap.get? d=some o∧o.data=.dict es ep∧R (.ok (.ret (.int es.size s.toks))) { s with toks:=s.toks+1 }) :=
 .of_wp fun A R s ⟨o,es,ep,ho,hdat,h⟩=>by
  skip;show wpAny _ _ (dictSize d >>= _) _ _ s;unfold dictSize
  refine wpAny_bind (wpAny_bind (wpAny_dictEntries ho hdat (wpAny_pure ?_)));show wpAny _ _ (Builtin.Dict.pendingCount d >>= _) _ _ s
  refine wpAny_bind (wpAny_pendingCount_other hd (wpAny_ret_mkInt ?_))
  rw[Nat.add_zero]
  exact h
theorem j74 {d:Addr}{o:Obj}{es:Array DictEntry}{ep:Nat}{Q:Value→Shared→Prop} (hd:(d == sysModules)=false) (ho:s.heap.get? d=some o) (hc:o.ExactDict) (hdat:o.data=.dict es ep) (hfit:(es.size:Int) < 2 ^ 63)
  (h:∀ t tk,Q (.int es.size t) { s with toks:=tk }):wpAny (model prog w) A (call (.builtin "len") [.ref d]) Q E s:=by
 refine Calls.call_function_entry kind_len plain_len entry_len (args_len1 _) ?_;unfold Builtin.«len»
 refine wpAny_bind (m:=oneArg "len" _) (wpAny_pure (wpAny_bind (m:=callSpecial? (.ref d) (Str.ofString "__len__")) (wpAny_callSpecial?_slot (name:=Str.ofString "__len__") (j9n ho hc) PySem.F.slot_dict_len (call_meetsIn PySem.F.slot_dict_len (j9n ho hc) PySem.F.entry_dict_len (PySem.F.args_dict_len_1 _) (j9v hd) ⟨o,es,ep,ho,hdat,?_⟩))))
 show wpAny _ _ _ _ _ { s with toks:=s.toks+1 };refine wpAny_bind (wpAny_holding (wpAny_pure (wpAny_bind (wpAny_letGo ?_))))
 show wpAny _ _ (if ((es.size:Nat):Int) < 0 then _ else _) _ _ _;rw[if_neg (by omega)]
 show wpAny _ _ (if ((es.size:Nat):Int)≥2 ^ 63 then _ else _) _ _ _;rw[if_neg (by omega)]
 exact wpAny_bind (wpAny_mkInt (wpAny_pure ⟨_,rfl,h _ _⟩))
end
def rLenT:List V→Hp→VK→Prop:=fun xs H Q=>∃ a kvs,xs=[V.ref a]∧H a=some (.dT kvs)∧Q (.int kvs.length) H
section
variable {X:Cx}
theorem cLenT:CallR X (.builtin "len") rLenT:=by
 skip;intro pins s σ H xs us Q I r h
 obtain⟨a,kvs,rfl,ha,q⟩:=h
 obtain⟨u,rfl,ru⟩:=j4a r
 cases ru
 obtain⟨z,hd,xs',rel,o,es,ep,g,c,dt,en,_⟩:=jkb I.hok ha
 have l1:es.size=xs'.length:=size_of_entries en
 have l2:kvs.length=xs'.length:=Paired.length rel
 rw[sizeLine_eq] at z
 refine j74 hd g c dt (by omega) fun t tk=>⟨.int kvs.length,H,I.tok _,⟨t,by rw[l1,← l2]⟩,q⟩
theorem ji5 {H:Hp}{Q:VK}{p:Addr}{kvs:List (List Key × V)} (h:H p=some (.dT kvs)) (q:Q (.int kvs.length) H):rLenT [.ref p] H Q:=⟨p,kvs,rfl,h,q⟩
end
inductive IntsE:List (Int × Value)→List Int→Prop
 | nil:IntsE [] []
 | cons {n:Int}{t:Tok}{es:List (Int × Value)}{ns:List Int}:IntsE es ns→IntsE ((hashInt n,.int n t) :: es) (n :: ns)
theorem IntsE.length {es:List (Int × Value)}{ns:List Int} (r:IntsE es ns):es.length=ns.length:=by
 induction r with
 | nil=>rfl
 | cons _ ih=>simp[ih]
theorem IntsE.elems {prog:Program}{w:World}{es:List (Int × Value)}{ns:List Int} (r:IntsE es ns):ElemsOf (intKind prog w) es:=by
 induction r with
 | nil=>intro e he;cases he
 | @cons n t _ _ _ ih =>
  intro e he
  skip;rcases List.mem_cons.mp he with rfl | he
  ·exact⟨⟨n,intKind_is _ _ _ _,rfl⟩,rfl⟩
  ·exact ih e he
theorem IntsE.ints {es:List (Int × Value)}{ns:List Int} (r:IntsE es ns):IntsAre (es.map (·.2)) ns:=by
 induction r with
 | nil=>exact .nil
 | cons _ ih=>exact .cons _ _ ih
theorem IntsE.find {prog:Program}{w:World}{x:Int}{es:List (Int × Value)}{ns:List Int} (r:IntsE es ns):(x∈ns→∃ j,es.findIdx? (fun e=>(intKind prog w).is x e.2)=some j)∧(x∉ns→es.findIdx? (fun e=>(intKind prog w).is x e.2)=none):=by
 have key:∀ (n:Int) (t:Tok),(intKind prog w).is x (.int n t)=true↔n=x:=fun n t=>by
  constructor
  ·intro h
   exact ((intKind prog w).inj _ _ _ h (intKind_is _ _ _ _)).symm
  ·rintro rfl
   exact intKind_is _ _ _ _
 constructor
 ·intro hx
  have:(es.findIdx? (fun e=>(intKind prog w).is x e.2)).isSome=true:=by
   rw[List.findIdx?_isSome,List.any_eq_true]
   induction r with
   | nil=>cases hx
   | @cons n t es ns _ ih =>
    skip;rcases List.mem_cons.mp hx with rfl | hx
    ·exact⟨_,List.mem_cons_self,(key _ _).mpr rfl⟩
    ·obtain⟨e,h1,h2⟩:=ih hx
     exact⟨e,List.mem_cons_of_mem _ h1,h2⟩
  exact Option.isSome_iff_exists.mp this
 ·intro hx
  rw[List.findIdx?_eq_none_iff]
  induction r with
  | nil=>intro e he;cases he
  | @cons n t es ns _ ih =>
   intro e he
   skip;rcases List.mem_cons.mp he with rfl | he
   ·exact Bool.eq_false_iff.mpr fun z=>hx (by rw[(key _ _).mp z];exact List.mem_cons_self)
   ·exact ih (fun z=>hx (List.mem_cons_of_mem _ z)) e he
theorem IntsE.perm {us vs:List (Int × Value)} (p:us.Perm vs):∀ {ns:List Int},IntsE vs ns→∃ ms,IntsE us ms∧ms.Perm ns:=by
 induction p with
 | nil=>intro ns r;exact⟨ns,r,List.Perm.refl _⟩
 | cons x _ ih =>
  intro ns r
  cases r with
  | cons r =>
   obtain⟨m,a,b⟩:=ih r
   exact⟨_,.cons a,b.cons _⟩
 | swap x y l =>
  intro ns r
  cases r with
  | cons r =>
   cases r with
   | cons r2=>exact⟨_,.cons (.cons r2),List.Perm.swap _ _ _⟩
 | trans _ _ i1 i2 =>
  intro ns r
  obtain⟨m,a,b⟩:=i2 r
  obtain⟨m2,a2,b2⟩:=i1 a
  exact⟨m2,a2,b2.trans b⟩
def j75 (w:World) (h:Heap) (S:Addr) (ns:List Int):Prop:=∃ es ep t,h.get? S=some (stObj es ep t)∧Tab t es∧t.led=(!byT w)∧t.plain=true∧IntsE es.toList ns∧ns.Nodup
theorem jbr:∀ {l m:List Int},l.Nodup→(∀ x∈l,x∈m)→l.length≤m.length
 | [],m,_,_=>Nat.zero_le _
 | x :: r,m,nd,h=>by
  obtain⟨h1,h2⟩:=List.nodup_cons.mp nd
  have hx:=h x List.mem_cons_self
  have:=jbr (l:=r) (m:=m.erase x) h2 fun y hy=>(List.mem_erase_of_ne (show y≠x from fun e=>h1 (by rw[← e];exact hy))).mpr (h y (List.mem_cons_of_mem _ hy))
  rw[List.length_erase_of_mem hx] at this
  have:=List.length_pos_of_mem hx
  rw[List.length_cons]
  omega
theorem jf4 {t:SetTable}{es:Array (Int × Value)} (T:Tab t es) (h:Int):∃ r,t.freeSlot h=some ((pth t.mask h r).j,false)∧(pth t.mask h r).j∉t.place.toList∧(pth t.mask h r).j≤t.mask∧∀ q,q < r→(pth t.mask h q).j∈t.place.toList:=by
 obtain⟨e0,e1,e2⟩:=T.free
 obtain⟨N,m1,m2⟩:=meets T.mask h e1
 have hfu:10 * SetTable.turns t.mask=10 * (t.mask+15):=rfl
 obtain⟨r,r1,r2,r3⟩:=j9f T.dum T.ris (fun _=>h+1) h (10 * SetTable.turns t.mask) 0 ⟨N,Nat.zero_le _,by rw[hfu];omega,by rw[m2];exact e2⟩
 rcases r3 with⟨n1,n2⟩ | ⟨_,n2,_⟩
 ·refine⟨r,?_,n1,by have:=j4t t.mask h r;omega,fun q hq=>(r2 q (Nat.zero_le _) hq).1⟩
  have pe:t.probe (fun _=>h+1) h (t.probeStart h)=some (.empty (pth t.mask h r).j none):=n2
  unfold SetTable.freeSlot
  rw[pe]
  rfl
 ·exact absurd n2 (by omega)
theorem ji6 {t:SetTable}{es:Array (Int × Value)} (T:Tab t es) (j:Nat):t.put j=({ t with place:=SetTable.insertAt t.place (SetTable.below t.place j) j },SetTable.below t.place j):=by
 unfold SetTable.put
 rw[T.dum]
 have:SetTable.has #[] j=false:=by unfold SetTable.has;simp
 rw[this]
 simp[T.dum]
section
variable {prog:Program}{w:World}{A:Around}{E:Value→Shared→Prop}{s:Shared}
theorem add_int {S:Addr}{es:Array (Int × Value)}{ep:Nat}{t:SetTable}{x:Int}{tx:Tok}{ns:List Int}{Q:Bool→Shared→Prop} (hS:s.heap.get? S=some (stObj es ep t)) (T:Tab t es) (hp:t.plain=true) (r:IntsE es.toList ns) (hb:es.size < 60)
  (h1:x∈ns→Q false s)
  (h2:x∉ns→∀ h' es' t' ep' ns',Heap.SameBut S s.heap h'→h'.get? S=some (stObj es' ep' t')→Tab t' es'→t'.led=t.led→t'.plain=true→IntsE es'.toList ns'→ns'.Perm (x :: ns)→Q true { s with heap:=h' }) :
  wpAny (model prog w) A (setAddHashed S (.int x tx) ((intKind prog w).hash x)) Q E s:=by
 have hsc:(Value.int x tx).scannable=true:=rfl
 have hk:(intKind prog w).hash x=hashInt x:=rfl
 skip;unfold setAddHashed setAddHashedIn
 refine wpAny_holding (wpAny_bind (wpAny_setState_of hS rfl T.fits ?_))
 dsimp only
 rw[byScan_of hsc (by unfold scanBound;omega) (r.elems (prog:=prog) (w:=w)),if_pos rfl]
 unfold setAddByScan
 refine wpAny_bind (wpAny_bind (wpAny_rule (wpAny_bind (wpAny_setScan_of (intKind_is _ _ _ _) hS rfl T.fits r.elems ?_))))
 by_cases hx:x∈ns
 ·obtain⟨j,hj⟩:=(r.find (prog:=prog) (w:=w)).1 hx
  rw[hj]
  dsimp only
  exact wpAny_pure (wpAny_pure (h1 hx))
 rw[(r.find (prog:=prog) (w:=w)).2 hx]
 dsimp only
 obtain⟨rr,f1,n1,n2,n3⟩:=jf4 T ((intKind prog w).hash x)
 have ip:=j1i es (SetTable.below t.place (pth t.mask ((intKind prog w).hash x) rr).j) ((intKind prog w).hash x,Value.int x tx)
 have isz:(SetTable.insertAt es (SetTable.below t.place (pth t.mask ((intKind prog w).hash x) rr).j) ((intKind prog w).hash x,Value.int x tx)).size=es.size+1:=by rw[← Array.length_toList,ip.length_eq,List.length_cons,Array.length_toList]
 have pp:=j1i t.place (SetTable.below t.place (pth t.mask ((intKind prog w).hash x) rr).j) (pth t.mask ((intKind prog w).hash x) rr).j
 have psz:(SetTable.insertAt t.place (SetTable.below t.place (pth t.mask ((intKind prog w).hash x) rr).j) (pth t.mask ((intKind prog w).hash x) rr).j).size=es.size+1:=by rw[← Array.length_toList,pp.length_eq,List.length_cons,Array.length_toList,T.size]
 have fit:({ t with place:=SetTable.insertAt t.place (SetTable.below t.place (pth t.mask ((intKind prog w).hash x) rr).j) (pth t.mask ((intKind prog w).hash x) rr).j }:SetTable).fits (es.size+1)=true:=by
  have:=T.room
  unfold SetTable.fits SetTable.fill
  show ((SetTable.insertAt t.place _ _).size == _ && decide ((SetTable.insertAt t.place _ _).size+t.dummies.size≤t.mask))=true
  rw[psz,T.dum,Bool.and_eq_true,beq_iff_eq,decide_eq_true_iff]
  have z:(#[]:Array Nat).size=0:=rfl
  refine⟨rfl,?_⟩
  rcases T.mask with h | h | h <;> omega
 have lay:layNew t es ((intKind prog w).hash x) (.int x tx)=(SetTable.insertAt es (SetTable.below t.place (pth t.mask ((intKind prog w).hash x) rr).j) ((intKind prog w).hash x,Value.int x tx),{ t with place:=SetTable.insertAt t.place (SetTable.below t.place (pth t.mask ((intKind prog w).hash x) rr).j) (pth t.mask ((intKind prog w).hash x) rr).j },false,false):=by
  unfold layNew
  rw[f1]
  dsimp only
  rw[ji6 T]
  dsimp only
  unfold SetTable.orStandIn
  rw[isz,fit,if_pos rfl]
  rfl
 rw[lay]
 dsimp only
 refine wpAny_bind (wpAny_pure ?_)
 rw[if_pos hp,hashByValue_scannable 8 hsc]
 refine wpAny_bind (wpAny_pure ?_)
 rw[show plainKind (Value.int x tx)=true from rfl,if_pos rfl]
 refine wpAny_bind (wpAny_storeSet_of hS rfl ?_ (by rw[isz,sizeLine_eq];omega))
 obtain⟨t1,ht⟩:∃ t1:SetTable,{ t with place:=SetTable.insertAt t.place (SetTable.below t.place (pth t.mask ((intKind prog w).hash x) rr).j) (pth t.mask ((intKind prog w).hash x) rr).j }=t1:=⟨_,rfl⟩
 obtain⟨es1,he⟩:∃ es1,SetTable.insertAt es (SetTable.below t.place (pth t.mask ((intKind prog w).hash x) rr).j) ((intKind prog w).hash x,Value.int x tx)=es1:=⟨_,rfl⟩
 have pt:=fun hr=>jco (x:=Value.int x tx) T n1 n2 n3 hr
 rw[ht] at fit pt
 rw[he] at ip isz pt
 rw[ht,he]
 have o1:(s.heap.update S (Obj.putSet es1 t1)).get? S=some (stObj es1 (ep+1) t1):=Heap.get?_update_self _ hS rfl
 have s1:Heap.SameBut S s.heap (s.heap.update S (Obj.putSet es1 t1)):=Heap.SameBut.update ..
 have l1:t1.led=t.led:=by rw[← ht]
 have p1:t1.plain=true:=by rw[← ht];exact hp
 have tf:t1.tooFull=decide ((es.size+1) * 5≥t.mask * 3):=by
  rw[← ht]
  unfold SetTable.tooFull SetTable.fill
  show decide (((SetTable.insertAt t.place _ _).size+t.dummies.size) * 5≥t.mask * 3)=_
  rw[psz,T.dum]
  rfl
 obtain⟨ns1,r1,pm1⟩:=IntsE.perm ip (.cons r)
 by_cases full:(es.size+1) * 5≥t.mask * 3
 ·rw[tf,decide_eq_true full,if_pos (by decide)]
  obtain⟨m',hm',wn,rm⟩:∃ m',Msk m'∧SetTable.sizeAbove (SetTable.grown (es.size+1))=m'+1∧(es.size+1) * 5 < m' * 3:=by
   have:=T.room
   rcases T.mask with h | h | h
   ·have hn:es.size=4:=by omega
    exact⟨31,.inr (.inl rfl),by rw[hn];decide +kernel,by omega⟩
   ·have hn:es.size=18:=by omega
    exact⟨127,.inr (.inr rfl),by rw[hn];decide +kernel,by omega⟩
   ·omega
  rw[isz]
  obtain⟨t2,ord,q1,q2,q3,q4,q5,q6,q7⟩:=j70 (t:=t1) (es:=es1) hm' wn (by rw[isz];exact rm)
  have rel:relayAll t1 es1 (SetTable.grown (es.size+1))=(ord.filterMap (es1[·]?),t2,false):=by
   unfold relayAll
   rw[q1]
   dsimp only
   have c1:coversAll ord es1.size=true:=by unfold coversAll;rw[List.isPerm_iff];exact q7
   rw[c1,q4.fits,if_pos (by decide)]
  rw[rel]
  dsimp only
  refine wpAny_bind (wpAny_pure ?_)
  refine wpAny_bind (wpAny_storeSet_of o1 rfl ?_ (by rw[q2,isz,sizeLine_eq];omega))
  obtain⟨ns2,r2,pm2⟩:=IntsE.perm q3 r1
  exact wpAny_pure (wpAny_pure (h2 hx _ _ t2 _ ns2 (s1.trans (Heap.SameBut.update ..)) (Heap.get?_update_self _ o1 rfl) q4 (q5.trans l1) (q6.trans p1) r2 (pm2.trans pm1)))
 ·rw[tf,decide_eq_false full,if_neg (by decide)]
  exact wpAny_pure (wpAny_pure (h2 hx _ _ t1 _ ns1 s1 o1 (pt (by omega)) l1 p1 r1 pm1))
end
section
variable {w:World}{prog:Program}{A:Around}
variable {R:Result→Shared→Prop}{I:Addr}{fp wr:List Addr}{G:Array GenState→Array GenState→Prop}{n:Nat}{P:Nat→Value→Prop}{St:Nat→Shared→Prop}
theorem jbs (W:WalksS prog w A.in1 I fp wr G n P St) (S:Addr) (hSf:S∉fp) (ns ms:List Int) (hn:ns.length=n) (hm0:∀ n∈ns,n∈ms) (hb:ms.length≤50) (hval:∀ i v,P i v→∃ t,v=.int (ns.getD i 0) t) :
  ∀ (k i:Nat) (s:Shared) (ks:List Int),n-i=k→i≤n→St i s→j75 w s.heap S ks→(∀ n,n∈ks↔n∈ns.take i) →
   (∀ s' ks',Moved (S :: wr) G s s'→j75 w s'.heap S ks'→(∀ n,n∈ks'↔n∈ns)→R (.ok (.ret .none)) s') →
   codeAny (model prog w) A (Code.builtin "set.update.loop" ⟨[.ref S,.ref I],[]⟩) R s:=by
 skip;have hSw:S∉wr:=fun h=>hSf (W.sub _ h)
 have sub2:∀ b∈wr,b∈S :: wr:=fun b hb=>List.mem_cons_of_mem _ hb
 intro k
 induction k with
 | zero =>
  intro i s ks hk hi hst hS hM hR
  obtain rfl:i=n:=by omega
  refine codeAny_builtin PyProof.Rows.F.entry_set_update_loop ?_;rw[Around.under_plainId PyProof.Rows.F.plain_set_update_loop _]
  show wpAny _ A.in1 (pyNext (.ref I) >>= _) _ _ s;refine wpAny_bind (W.done s _ _ hst fun s' hm=>?_)
  obtain⟨es,ep,t,g,r⟩:=hS
  exact wpAny_pure (hR s' ks (hm.mono sub2) ⟨es,ep,t,hm.heap S _ hSw g,r⟩ (by rw[← hn,List.take_length] at hM;exact hM))
 | succ k ih =>
  intro i s ks hk hi hst hS hM hR
  have hlt:i < n:=by omega
  refine codeAny_builtin PyProof.Rows.F.entry_set_update_loop ?_;rw[Around.under_plainId PyProof.Rows.F.plain_set_update_loop _]
  show wpAny _ A.in1 (pyNext (.ref I) >>= _) _ _ s;refine wpAny_bind (W.item i s _ _ hlt hst fun v s' hP hst' hm=>?_)
  obtain⟨tt,rfl⟩:=hval i v hP
  obtain⟨es,ep,t,g,T,l,p,r,nd⟩:=hS
  have g':=hm.heap S _ hSw g
  have rl:=r.length
  rw[Array.length_toList] at rl
  have tk:ns.take (i+1)=ns.take i++[ns.getD i 0]:=by
   rw[List.take_add_one,List.getD_eq_getElem?_getD,List.getElem?_eq_getElem (by omega)]
   rfl
  have few:ks.length≤50:=Nat.le_trans (jbr nd fun x hx=>hm0 x (List.mem_of_mem_take ((hM x).mp hx))) hb
  show wpAny _ A.in1 (holding [Value.int (ns.getD i 0) tt] (setAdd S (.int (ns.getD i 0) tt)) >>= _) _ _ s'
  refine wpAny_bind (wpAny_holding ?_);unfold setAdd;refine wpAny_holding ?_
  refine wpAny_bind ((intKind prog w).pyHash (k:=ns.getD i 0) (intKind_is _ _ _ _) ?_)
  have ht':s'.toks≤s'.toks+1:=by omega
  refine add_int (s:={ s' with toks:=s'.toks+1 }) g' T p r (by omega) (fun hin=>?_) (fun hno h' es' t' ep' ks' sb g2 T2 l2 p2 r2 pm=>?_)
  ·refine wpAny_pure ⟨plainId_quiet PyProof.Rows.F.plain_set_update_loop _,ih (i+1) _ ks (by omega) hlt (W.frame _ s' _ _ hst' ht' fun b hb o e=>e) ⟨es,ep,t,g',T,l,p,r,nd⟩ (fun x=>?_) fun s'' ks'' hm'' hS'' hM''=>?_⟩
   ·rw[tk,List.mem_append,List.mem_singleton,hM]
    exact⟨.inl,fun z=>z.elim id fun e=>by rw[e,← hM];exact hin⟩
   ·exact hR s'' ks'' (Moved.trans W.gtrans ((hm.mono sub2).then_heap ht' fun b o hb e=>e) hm'') hS'' hM''
  ·have sbk:∀ b o,b≠S→s'.heap.get? b=some o→h'.get? b=some o:=fun b o z e=>by rw[sb.2 b z];exact e
   refine wpAny_pure ⟨plainId_quiet PyProof.Rows.F.plain_set_update_loop _,ih (i+1) _ ks' (by omega) hlt (W.frame _ s' _ _ hst' ht' fun b hb o e=>sbk b o (fun z:b=S=>hSf (by rw[← z];exact hb)) e) ⟨es',ep',t',g2,T2,l2.trans l,p2,r2,pm.nodup_iff.mpr (List.nodup_cons.mpr ⟨hno,nd⟩)⟩ (fun x=>?_) fun s'' ks'' hm'' hS'' hM''=>?_⟩
   ·rw[tk,List.mem_append,List.mem_singleton,pm.mem_iff,List.mem_cons,hM]
    exact⟨fun z=>z.symm,fun z=>z.symm⟩
   ·refine hR s'' ks'' (Moved.trans W.gtrans ((hm.mono sub2).then_heap ht' fun b o hb e=>?_) hm'') hS'' hM''
    exact sbk b o (fun z=>hb (by rw[z];exact List.mem_cons_self)) e
end
section
variable {prog:Program}{w:World}{A:Around}{E:Value→Shared→Prop}{s:Shared}
set_option maxHeartbeats 8000000 in
theorem jbt {l:Addr}{items:Array Value}{ns ms:List Int}{Q:Value→Shared→Prop} (hh:A.handled=none) (hl:s.heap.IsTuple l items) (hz:ns.length=items.size) (hi:∀ (i:Nat) (v:Value),items[i]?=some v→∃ t,v=.int (ns.getD i 0) t) (hm0:∀ n∈ns,n∈ms) (hb:ms.length≤50)
  (h:∀ (h':Heap) (tk:Nat) (ks:List Int),j75 w h' s.heap.objs.size ks→(∀ n,n∈ks↔n∈ns)→(∀ b o,b < s.heap.objs.size→s.heap.get? b=some o→h'.get? b=some o)→Q (.ref s.heap.objs.size) { s with heap:=h',toks:=tk }) :
  wpAny (model prog w) A (call (Value.type "set") [.ref l]) Q E s:=by
 obtain⟨c,tl,hmro⟩:=PySem.F.called_set.mro
 have hmade:=PySem.F.called_set.made
 have hsub:=PySem.F.called_set.sub
 refine wpAny_call (codeAny_of_tree ?_);show wpAny _ _ (callAny (.type "set") _) _ _ _;refine wpAny_pure ⟨Code.quiet_builtin _ (by decide +kernel),codeAny_builtin PySem.F.entry_type_call ?_⟩
 skip;rw[Around.under_plain (weight_type_call_type "set" [.ref l] []) rfl]
 have h1:=PySem.F.called_set.notType
 have h2:=PySem.F.called_set.canCreate
 have hct:=PySem.F.typeCall_set_1 (.ref l)
 skip;repeat (any_goals (first | assumption | wp_step))
 refine codeAny_mono (j96 (.ref l) (E:=E) (QN:=fun obj s₁=>obj=.ref s.heap.objs.size∧s₁={ s with heap:=s.heap.push (newSet (!byT w)) }) ⟨rfl,rfl⟩) fun r s₁ hr=>?_
 cases r with
 | error e=>exact hr
 | ok fl =>
  cases fl with
  | ret obj =>
   obtain⟨rfl,rfl⟩:=hr
   have hS:(s.heap.push (newSet (!byT w))).get? s.heap.objs.size=some (newSet (!byT w)):=Heap.get?_push_size _ rfl
   have hT:Shared.TypeIs { s with heap:=s.heap.push (newSet (!byT w)) } (.ref s.heap.objs.size) "set":=⟨_,hS,rfl⟩
   have hli:=PySem.F.called_set.init.lookup
   have hbi:=PySem.F.called_set.init.bind (.ref s.heap.objs.size)
   skip;repeat (any_goals (first | assumption | wp_step))
   refine codeAny_mono (codeAny_call_builtin (R:=wants (fun r s₂=>r=.none∧∃ h' tk ks,s₂={ s with heap:=h',toks:=tk }∧j75 w h' s.heap.objs.size ks∧(∀ n,n∈ks↔n∈ns)∧(∀ b o,b < s.heap.objs.size→s.heap.get? b=some o→h'.get? b=some o)) E) PySem.F.called_set.init.plain PySem.F.entry_set_init (check_set_init_1 hT ?_)) fun r₂ s₂ hr₂=>?_
   ·obtain⟨⟨ocls,odict,odata,oslots⟩,hol,hcl,nl,hdl⟩:=hl
    replace hcl:ocls=.type "tuple":=hcl
    replace hdl:odata=.seq items nl:=hdl
    subst hcl hdl
    have hol':(s.heap.push (newSet (!byT w))).get? l=some { cls:=.type "tuple",dict:=odict,data:=.seq items nl,slots:=oslots }:=Heap.get?_push_of_some _ hol
    have hsls:=jb4
    have hslf:=j90
    skip;have hne:(Value.type "tuple" == Value.type "dict")=false:=by decide
    have hl1:(s.heap.push (newSet (!byT w))).IsTuple l items:=⟨_,hol',rfl,nl,rfl⟩
    unfold Builtin.«set.__init__» noKeywords Builtin.Frozenset.updateFrom;generalize hPI:pyIter=PI;wp_walk;subst hPI
    refine wpAny_pyIter_tuple hl1 (wpAny_bind (wpAny_runValue ?_))
    skip;have hlS:l < s.heap.objs.size:=Heap.lt_size hol
    have hh3:A.in1.in1.in1.handled=none:=hh
    have hneI:l≠(s.heap.push (newSet (!byT w))).objs.size:=by rw[Heap.size_push];exact Nat.ne_of_lt (Nat.lt_succ_of_lt hlS)
    have hSf:s.heap.objs.size∉[(s.heap.push (newSet (!byT w))).objs.size,l]:=by
     rw[Heap.size_push];simp only[List.mem_cons,List.mem_nil_iff,or_false,not_or]
     skip;exact⟨Nat.ne_of_lt (Nat.lt_succ_self _),Nat.ne_of_gt hlS⟩
    refine jbs ((Walks.tuple hh3 _ l hneI items).toS) s.heap.objs.size hSf ns ms hz hm0 hb hi (items.size-0) 0 _ [] (by omega) (Nat.zero_le _) ⟨⟨_,Heap.get?_push_size _ rfl,rfl,rfl⟩,⟨_,Heap.get?_push_of_some _ hol',rfl,nl,rfl⟩⟩ ?hS0 (fun n=>by simp) ?hR
    case hS0=>exact⟨#[],0,_,Heap.get?_push_of_some _ hS,⟨.inl rfl,rfl,List.Pairwise.nil,rfl,by show 0 * 5 < 7 * 3;decide,fun j hj=>by simp[SetTable.fresh] at hj,fun i hi=>by simp at hi⟩,rfl,rfl,.nil,List.nodup_nil⟩
    case hR =>
     intro s' ks' hm hS' hmem
     obtain⟨h',g',d',t',o'⟩:=s'
     skip;have eg:g'=s.gens:=hm.gens
     skip;have ed:d'=s.drawn:=hm.drawn
     have eo:o'=s.os:=hm.os
     subst eg ed eo
     show wpAny _ _ _ _ _ _;refine wpAny_pure ?_;show wpAny _ _ (ret Value.none) _ _ _
     refine wpAny_pure ⟨rfl,h',t',ks',rfl,hS',hmem,fun b o hb e=>?_⟩
     have hb2:b≠(s.heap.push (newSet (!byT w))).objs.size:=by rw[Heap.size_push];exact Nat.ne_of_lt (Nat.lt_succ_of_lt hb)
     refine hm.heap b o ?_ (Heap.get?_push_of_some _ (Heap.get?_push_of_some _ e))
     simp only[List.mem_cons,List.mem_nil_iff,or_false,not_or]
     exact⟨Nat.ne_of_lt hb,hb2⟩
   ·cases r₂ with
    | error e=>exact hr₂
    | ok fl₂ =>
     cases fl₂ with
     | ret r =>
      skip;obtain⟨rfl,h',tk,ks,rfl,hS',hmem,hk'⟩:=hr₂
      skip;repeat (any_goals (first | assumption | wp_step))
      exact h _ _ _ hS' hmem hk'
     | _=>exact hr₂.elim
  | _=>exact hr.elim
end
section
variable {X:Cx}
def j76 (K:PySem.W.Frag):List V→Hp→VK→Prop:=fun xs H Q=>∃ (p:Addr) (ns ms:List Int),xs=[.ref p]∧H p=some (.tup (ns.map V.int))∧(∀ n∈ns,n∈ms)∧ms.length≤50∧∀ l (ks:List Int),H l=none→ks.Pairwise (· < ·)→(∀ k,k∈ks↔k∈ns)→Q (.ref l) (upd H l (.lst (ks.map V.int)))
theorem j7r:∀ {ks:List Int},ks.Nodup→ks.Pairwise (·≤·)→ks.Pairwise (· < ·):=fun n p=>(p.and n).imp fun {a b} h=>by have:=h.1;have:=h.2;omega
theorem j7s {a:Expr}{ta:TA}{p p' pos pos':Pos} (hc:X.calm=true) (hg:Gl X "sorted") (hm:X.mg "sorted"=none) (hg2:Gl X "set") (hm2:X.mg "set"=none) (ha:PA X [a] ta) (hs:starEach [a] X.env=[(false,eval a X.env)]:=by rfl)
  (ht:starEach [.Call (.Name "set" p') [a] [] pos'] X.env=[(false,eval (.Call (.Name "set" p') [a] [] pos') X.env)]:=by rfl) :
  PE X (.Call (.Name "sorted" p) [.Call (.Name "set" p') [a] [] pos'] [] pos) (tCB (j76 X.K) ta):=by
 intro pins s σ H Q I h
 refine wpAny_Call_Name_kw (j25 I hg hm PyProof.Rows.boot_sorted (PyProof.Rows.callWith_builtin1 ?_ ht rfl) (by decide) (by decide))
 rw[ht]
 show wpAny _ _ (spliced ((false,eval (.Call (.Name "set" p') [a] [] pos') X.env) :: backTo pos [])) _ _ s
 refine Calls.spliced_cons (wpAny_Call_Name_kw (j25 I hg2 hm2 boot_set (PyProof.Rows.callWith_type1 (thn (ha pos' pins s σ H _ I h) fun us s1 ⟨vs,H1,I1,r1,q1⟩=>?_) hs rfl) (by decide) (by decide)))
 obtain⟨p1,ns,ms,e,hx,hin,hz,q⟩:=q1
 subst e
 obtain⟨u,rfl,ru⟩:=j4a r1
 cases ru
 obtain⟨_,its,ri,pl,_⟩:=(show ObjOk X.prog X.w H1 s1.heap p1 (.tup (ns.map V.int)) from I1.hok p1 _ hx)
 have hl:=ri.length
 rw[List.length_map] at hl
 refine jbt (I1.ok.hd hc) pl (by rw[List.size_toArray];exact hl) (fun i v hv=>?_) hin hz fun h' tk ks hS hmem hk=>Calls.spliced_nil ?_
 ·exact IntsAre.int_at (j14 ri) i v (by simpa using hv)
 obtain⟨es,ep,t,g,T,hled,hpl,rE,nd⟩:=hS
 have few:=jbr nd fun x hx=>hin x ((hmem x).mp hx)
 have rl:=rE.length
 rw[Array.length_toList] at rl
 refine jba (s:={ s1 with heap:=h',toks:=tk }) (I1.ok.hd hc) g (j9d T.fits hpl T.ris T.size) hled (by omega) rE.ints fun s' g' l out ex ns' hk2 hlt ho hI hp hw=>?_
 have kk:∀ b u,s1.heap.get? b=some u→g'.get? b=some u:=fun b u e=>hk2 b u (hk b u (Heap.lt_size e) e)
 have ln:=hp.length_eq
 refine⟨.ref l,upd H1 l (.lst (ns'.map V.int)),I1.laid (t':=s'.toks) kk (Nat.le_of_lt hlt) (show ObjOk X.prog X.w _ _ _ (.lst (ns'.map V.int)) from⟨by rw[List.length_map,sizeLine_eq];omega,out,ex,j1y hI,ho⟩),rfl,q l ns' (I1.hok.fresh (Nat.le_of_lt hlt)) (j7r (hp.nodup_iff.mpr nd) hw) fun k=>by rw[hp.mem_iff,hmem]⟩
theorem j9w {K:PySem.W.Frag}{H:Hp}{Q:VK}{p:Addr}{ns:List Int} (ms:List Int) (h:H p=some (.tup (ns.map V.int))) (hin:∀ n∈ns,n∈ms) (hn:ms.length≤50) (q:∀ l (ks:List Int) H',H l=none→H' l=some (.lst (ks.map V.int))→ks.Pairwise (· < ·)→(∀ k,k∈ks↔k∈ns)→Ext H H'→Q (.ref l) H'):j76 K [.ref p] H Q:=⟨p,ns,ms,rfl,h,hin,hn,fun l ks nl pw mm=>q l ks _ nl j04 pw mm (j0g nl)⟩
end
section
variable {X:Cx}
theorem j13 (L:List Int):(L.map (Sum.inl:Int→Key)).map kV=L.map V.int:=by rw[List.map_map];rfl
end
section
variable {X:Cx}
open Classical in
end
section
variable {X:Cx}
theorem j7t {K:PySem.W.Frag}{H:Hp}{Q:VK}{p:Addr}{ns:List Int} (h:H p=some (.tup (ns.map V.int))) (hl:ns.length < 64) (q:∀ l (ns':List Int) H',H l=none→ns'.Perm ns→ns'.Pairwise (·≤·)→H' l=some (.lst (ns'.map V.int))→Ext H H'→Q (.ref l) H'):jhe K [.ref p] H Q:=.inl (jb1 h hl q)
end
end L2
set_option Elab.async false
set_option linter.all false
set_option maxRecDepth 100000
set_option maxHeartbeats 4000000
namespace L2
open PySem PySem.Spec PyProof.Rows PySem.W
section
variable {prog:Program}{w:World}{A:Around}{E:Value→Shared→Prop}{s:Shared}{a:Addr}{vs:List Value}
theorem j9x {n:Nat}{P:PySem.Fin→Shared→Prop} (ho:s.heap.get? a=some (seqObj "list" vs.toArray n)) (h1:vs.length < 2)
  (h:P (.done (.ret .none)) { s with heap:=sortedHeap s.heap a vs vs.toArray }):wpAny (model prog w) A (Builtin.«list.sort» ⟨[Value.ref a],[]⟩) P E s:=by
 have zl:vs.length≤sizeLine:=by rw[sizeLine_eq];omega
 skip;rw[list_sort_plain]
 skip;refine wpAny_bind (listItems_at ho rfl (wpAny_bind (listUpdate_at ho rfl ?_ (by rw[List.size_toArray];omega) (Nat.zero_le _))))
 obtain⟨e1,g1⟩:∃ e1,(s.heap.update a (Obj.mapSeq fun _=>#[])).get? a=some (seqObj "list" #[] e1):=⟨_,get?_update_seq ho (fun _=>#[])⟩
 skip;refine wpAny_bind (seqEpoch_at g1 rfl (wpAny_bind (wpAny_newTuple (wpAny_bind (wpAny_newList (wpAny_holding ?_) (Nat.zero_le _))) zl)))
 have g6:(((s.heap.update a (Obj.mapSeq fun _=>#[])).push (seqObj "tuple" vs.toArray 0)).push (seqObj "list" #[] 0)).get? a=some (seqObj "list" #[] e1):=Heap.get?_push_of_some _ (Heap.get?_push_of_some _ g1)
 skip;show wpAny (model prog w) A _ P E { s with heap:=((s.heap.update a (Obj.mapSeq fun _=>#[])).push (seqObj "tuple" vs.toArray 0)).push (seqObj "list" #[] 0) }
 dsimp only
 have h2:vs.toArray.size < 2:=by rw[List.size_toArray];exact h1
 skip;rw[if_pos h2,if_pos h2]
 refine wpAny_bind (wpAny_pure ?_)
 skip;rw[StateT.run_pure]
 refine wpAny_bind (wpAny_pure ?_)
 have es:((vs.toArray.zip vs.toArray).map fun x=>x.2)=vs.toArray:=by
  apply Array.ext'
  refine List.ext_getElem? fun i=>?_
  by_cases hi:i < vs.length
  ·simp[hi]
  ·simp[hi]
 skip;rw[← es] at h
 skip;refine wpAny_bind (seqEpoch_at g6 rfl (wpAny_bind (listUpdate_at g6 rfl ?_ (by simp) (by show ((vs.toArray.zip vs.toArray).map fun x=>x.2).size≤_;rw[Array.size_map,Array.size_zip,List.size_toArray];omega))))
 skip;simp only[bne_self_eq_false,Bool.false_eq_true,if_false]
 exact wpAny_pure h
end
section
variable {X:Cx}
def jf5 (K:PySem.W.Frag):List V→Hp→VK→Prop:=fun xs H Q=>∃ (p:Addr) (vs:List V),xs=[.ref p]∧SqL K H p vs∧vs.length < 2∧∀ l,H l=none→Q (.ref l) (upd H l (.lst vs))
theorem cSort1:CallR X (.builtin "sorted") (jf5 X.K):=by
 skip;intro pins s σ H xs us Q I r h
 obtain⟨p,vs,rfl,hq,h2,q⟩:=h
 obtain⟨u,rfl,rx⟩:=j4a r
 cases rx
 obtain⟨its,ri,pl,hz⟩:=I.list hq
 have hlen:=ri.length
 refine Calls.call_function_entry kind_sorted plain_sorted entry_sorted (args_sorted1 _) ?_;skip;unfold Builtin.«sorted»
 refine wpAny_bind (m:=checkCount "sorted" 1 1 _) (wpAny_pure (wpAny_bind (collect_list pl.isList (wpAny_bind (wpAny_newList ?_ (by rw[sizeLine_eq];omega))) (by rw[sizeLine_eq];omega))))
 have n1:((s.heap.push (seqObj "list" #[] 0)).update s.heap.objs.size (Obj.mapSeq (·++its.toArray))).objs.size=s.heap.objs.size+1:=by rw[Heap.size_update,size_push']
 have o1:(((s.heap.push (seqObj "list" #[] 0)).update s.heap.objs.size (Obj.mapSeq (·++its.toArray))).push (seqObj "list" its.toArray 0)).get? (s.heap.objs.size+1)=some (seqObj "list" its.toArray 0):=by rw[← n1];exact Heap.get?_push_size _ rfl
 have kp:∀ b o,s.heap.get? b=some o→(((s.heap.push (seqObj "list" #[] 0)).update s.heap.objs.size (Obj.mapSeq (·++its.toArray))).push (seqObj "list" its.toArray 0)).get? b=some o :=
  fun b o e=>Heap.get?_push_of_some _ ((Heap.get?_update_other _ _ (Nat.ne_of_gt (Heap.lt_size e))).trans (Heap.get?_push_of_some _ e))
 show wpAny _ _ _ _ _ { s with heap:=((s.heap.push (seqObj "list" #[] 0)).update s.heap.objs.size (Obj.mapSeq (·++its.toArray))).push (seqObj "list" its.toArray 0) };rw[n1]
 refine wpAny_bind (wpAny_holding (wpAny_call_entry slot_list_sort ⟨_,o1,rfl⟩ entry_list_sort (j9x (s:={ s with heap:=((s.heap.push (seqObj "list" #[] 0)).update s.heap.objs.size (Obj.mapSeq (·++its.toArray))).push (seqObj "list" its.toArray 0) }) o1 (by omega) ⟨_,rfl,wpAny_pure ⟨_,rfl,?_⟩⟩) (args_list_sort _)))
 obtain⟨e,he⟩:=sortedHeap_at (out:=its.toArray) o1
 have kk:∀ b u,s.heap.get? b=some u→(sortedHeap (((s.heap.push (seqObj "list" #[] 0)).update s.heap.objs.size (Obj.mapSeq (·++its.toArray))).push (seqObj "list" its.toArray 0)) (s.heap.objs.size+1) its its.toArray).get? b=some u:=fun b u eb=>by
  have lb:=Heap.lt_size eb
  refine (sortedHeap_old (Nat.ne_of_lt (Nat.lt_succ_of_lt lb)) ?_).trans (kp b u eb)
  rw[Heap.size_push,n1]
  exact Nat.lt_succ_of_lt (Nat.lt_succ_of_lt lb)
 exact⟨.ref (s.heap.objs.size+1),_,I.laid (t':=s.toks) kk (Nat.le_succ _) (show ObjOk X.prog X.w _ _ _ (.lst vs) from⟨by rw[sizeLine_eq];omega,_,e,ri,he⟩),rfl,q _ (I.hok.fresh (Nat.le_succ _))⟩
theorem ji7 {K:PySem.W.Frag}{H:Hp}{Q:VK}{p:Addr}{vs:List V} (h:H p=some (.lst vs)) (hn:vs.length < 2) (q:∀ l H',H l=none→H' l=some (.lst vs)→Ext H H'→Q (.ref l) H'):jf5 K [.ref p] H Q:=⟨p,vs,rfl,SqL.of h,hn,fun l nl=>q l _ nl j04 (j0g nl)⟩
def ji8 (K:PySem.W.Frag):List V→Hp→VK→Prop:=fun xs H Q=>jeu K xs H Q∨jf5 K xs H Q
theorem ji9 {k:Nat} (hr:Room k X.A):CallR X (.builtin "sorted") (ji8 X.K):=(cSortP hr).or cSort1
def jcy:List V→Hp→VK→Prop:=fun xs H Q=>∃ (p:Addr) (o:Obj) (ks:List Key) (v:V),xs=[.ref p]∧H p=some (.frz o (.dT [(ks,v)]))∧∀ l b,H l=none→H b=some (.tup (ks.map kV))→Q (.ref l) (upd H l (.lst [.ref b]))
theorem jia (hc:X.calm=true):CallR X (.builtin "sorted") jcy:=by
 skip;intro pins s σ H xs us Q I r h
 obtain⟨p,o,ks,v,rfl,hp,q⟩:=h
 obtain⟨u,rfl,ru⟩:=j4a r
 cases ru
 obtain⟨g1,g2,g3,es,ep,g4,g5,g6⟩:=fz_t I.hok hp
 have z1:es.size=1:=g5
 obtain⟨kv,b,k1,k2,k3⟩:=g6 0 (by omega)
 cases (Option.some.inj k1:(ks,v)=kv)
 refine Calls.call_function_entry kind_sorted plain_sorted entry_sorted (args_sorted1 _) ?_;skip;unfold Builtin.«sorted»
 refine wpAny_bind (m:=checkCount "sorted" 1 1 _) (wpAny_pure (wpAny_bind (j9r (I.ok.hd hc) g3 g1 g2 g4 (by rw[sizeLine_eq];omega) fun s' acc hm le ha=>?_)))
 have l2:acc.toList=[.ref b]:=by
  rw[ji2 ha]
  have e:es.toList=[es[0]]:=by
   refine List.ext_getElem? fun i=>?_
   cases i with
   | zero=>rw[Array.getElem?_toList,Array.getElem?_eq_getElem (by omega)];rfl
   | succ i=>rw[Array.getElem?_toList,Array.getElem?_eq_none (by omega)];rfl
  rw[e,List.map_cons,k2];rfl
 rw[l2]
 skip;refine wpAny_bind (wpAny_newList ?_ (by rw[sizeLine_eq];simp))
 have o1:(s'.heap.push (seqObj "list" [Value.ref b].toArray 0)).get? s'.heap.objs.size=some (seqObj "list" [Value.ref b].toArray 0):=Heap.get?_push_size _ rfl
 refine wpAny_bind (wpAny_holding (wpAny_call_entry slot_list_sort ⟨_,o1,rfl⟩ entry_list_sort (j9x (s:={ s' with heap:=s'.heap.push (seqObj "list" [Value.ref b].toArray 0) }) o1 (by simp) ⟨_,rfl,wpAny_pure ⟨_,rfl,?_⟩⟩) (args_list_sort _)))
 obtain⟨h',g',d',t',q'⟩:=s'
 skip;have eg:g'=s.gens:=hm.gens
 skip;have ed:d'=s.drawn:=hm.drawn
 skip;have eo:q'=s.os:=hm.os
 subst eg ed eo
 obtain⟨e,he⟩:=sortedHeap_at (out:=[Value.ref b].toArray) o1
 have kk:∀ c u,s.heap.get? c=some u→(sortedHeap (h'.push (seqObj "list" [Value.ref b].toArray 0)) h'.objs.size [Value.ref b] [Value.ref b].toArray).get? c=some u:=fun c u eb=>by
  have hb:=hm.heap c u (by simp) eb
  have lb:=Heap.lt_size hb
  refine (sortedHeap_old (Nat.ne_of_lt lb) ?_).trans (Heap.get?_push_of_some _ hb)
  rw[Heap.size_push]
  exact Nat.lt_succ_of_lt lb
 exact⟨.ref h'.objs.size,upd H h'.objs.size (.lst [.ref b]),I.laid (t':=t') kk (Nat.le_of_lt le) (show ObjOk X.prog X.w _ _ _ (.lst [.ref b]) from⟨by rw[sizeLine_eq];simp,_,e,.cons rfl .nil,he⟩),rfl,q _ b (I.hok.fresh (Nat.le_of_lt le)) k3⟩
theorem jf6 {H:Hp}{Q:VK}{p:Addr}{o:Obj}{ks:List Key}{v:V} (h:H p=some (.frz o (.dT [(ks,v)]))) (q:∀ l b H',H l=none→H' l=some (.lst [.ref b])→H b=some (.tup (ks.map kV))→Ext H H'→Q (.ref l) H'):jcy [.ref p] H Q:=⟨p,o,ks,v,rfl,h,fun l b nl hb=>q l b _ nl j04 hb (j0g nl)⟩
def rLenF:List V→Hp→VK→Prop:=fun xs H Q=>∃ a o kvs,xs=[V.ref a]∧H a=some (.frz o (.dT kvs))∧kvs.length≤1000000∧Q (.int kvs.length) H
theorem cLenF:CallR X (.builtin "len") rLenF:=by
 skip;intro pins s σ H xs us Q I r h
 obtain⟨a,o,kvs,rfl,ha,hl,q⟩:=h
 obtain⟨u,rfl,ru⟩:=j4a r
 cases ru
 obtain⟨g1,g2,g3,es,ep,g4,g5,g6⟩:=fz_t I.hok ha
 refine j74 g3 g1 g2 g4 (by omega) fun t tk=>⟨.int kvs.length,H,I.tok _,⟨t,by rw[g5]⟩,q⟩
theorem jib {H:Hp}{Q:VK}{p:Addr}{o:Obj}{kvs:List (List Key × V)} (h:H p=some (.frz o (.dT kvs))) (hl:kvs.length≤1000000) (q:Q (.int kvs.length) H):rLenF [.ref p] H Q:=⟨p,o,kvs,rfl,h,hl,q⟩
end
section
variable {X:Cx}{k:Nat}{f:Addr}{fd:FuncData}{ps:List Str}{sp:Sp}{dvs:List V}{ds:List Value}{x:Str}{p pos:Pos}{e:Expr}{es:List Expr}{t:TA}
theorem j9y (F:FnOk X.prog X.w X.K X.mg X.base (CXE X.prog X.w) k f fd ps sp) (hr:Room k X.A) (hg:Gl X x) (hm:X.mg x=some (.ref f)) (hk:PySem.W.keepIn X.K (.ref f)=true) (hb:Binds X.K fd ps ds) (hd:Vals dvs ds)
  (ha:PA X.nox (e :: es) t) (hdb:(x == ("__debug__":Str))=false:=by decide) (he:starEach (e :: es) X.env=(false,eval e X.env) :: starEach es X.env:=by rfl) (hpl:(backTo pos (starEach es X.env)).any (·.1)=false:=by rfl) :
  PEX X (.Call (.Name x p) (e :: es) [] pos) (fun E=>jk2 sp dvs E t):=by
 intro pins s σ H Q E I h
 skip;refine wpAny_Call_Name_kw (j3c I hg hm ?_ hdb)
 skip;refine PySem.W.callWith_K (h₀:=X.base) I.ok.mod.kin hk (thn (pa_any ha pos I h) fun us s1 ⟨vs,H1,I1,r,q⟩=>⟨I1.kIn,?_⟩) he hpl
 exact jh4 F hr hb hd I1 r q
end
section
variable {P:Program}{w:World}{K:PySem.W.Frag}{mg:Str→Option Value}{base:Heap}
theorem Fun.okLX {x qual:Str}{st:Stmt}{f:Addr}{fd:FuncData}{N ps:List Str}{k:Nat}{sp:Sp}{c:Addr} (F:Fun K x qual st f fd) (hc:fd.code=.ref c) (S:FnScope N ps (j01 st)) (len:∀ vs H Q E,sp vs H Q E→vs.length=ps.length)
  (hbody:∀ (A:Around) (outer:List Env) (s:Shared) (H:Hp) (vs:List V) (Q:VK) (E:XK),Room k (A.deeper (envOfC qual (j01 st) s.heap.objs.size f (.ref c)))→sp vs H Q E →
   ∃ t,PSs ((cxOf (CXU P w) P w K mg base N qual (j01 st) f (.ref c) A outer s H E).wish (XS (cxOf (CXU P w) P w K mg base N qual (j01 st) f (.ref c) A outer s H E) E)) (j0a st) t∧t { nx:=fun _ H'=>Q .non H',rt:=Q } (start N vs) H):FnOk P w K mg base (CXU P w) (k+1) f fd ps sp:=by
 obtain⟨oc,od,kV,doc,pm,an,cdv,ct,osl,rfl,lk,hcd⟩:=F.ex
 have e:cdv=.ref c:=hc
 subst e
 refine jjb lk hcd S len fun A outer s H vs Q E hr hsp=>?_
 obtain⟨t,h,q⟩:=hbody A outer s H vs Q E hr hsp
 exact⟨t,h.wished leftX,q⟩
end
end L2
namespace Q
open PySem PySem.Spec PyProof.Rows L2
local macro_rules | `(tactic| walk_at "v") => `(tactic| repeat walk_at "vs")
local macro_rules | `(tactic| walk_at "side")=>`(tactic| first | exact⟨by decide,by decide,by decide⟩ | exact Or.inl ⟨by omega,by omega⟩ | exact Or.inr (Or.inl ⟨by omega,by omega⟩) | exact⟨by omega,by omega⟩ | omega | decide)
local macro_rules | `(tactic| walk_at "hp")=>`(tactic| first | assumption | ((refine up (H:=?kH) ?ke ?kf);(case ke=>assumption);(case kf=>walk_at "hp")))
local macro_rules | `(tactic| walk_at "vs")=>`(tactic| first
 | ((with_reducible refine r_var (v:=?kv) ?kh ?_);(case kh=>exact rfl))
 | with_reducible refine r_op ?_
 | with_reducible refine r_c ?_
 | with_reducible refine r_seq ?_
 | with_reducible refine r_asg ?_
 | with_reducible refine jgk ?_
 | with_reducible refine r_if ?_
 | with_reducible refine r_test ?_
 | with_reducible refine r_bl ?_
 | with_reducible refine r_I0 ?_
 | with_reducible refine jgz ?_
 | with_reducible refine jhf ?_
 | with_reducible refine r_leWI ?_
 | with_reducible refine r_leWS ?_
 | ((with_reducible refine jhh ?kc ?_);(case kc=>walk_at "side"))
 | with_reducible refine jgm ?_
 | with_reducible refine r_pow6 ?_
 | with_reducible refine r_pow9 ?_
 | with_reducible refine r_powM ?_
 | ((with_reducible refine r_I ?kc ?_);(case kc=>walk_at "side"))
 | with_reducible refine r_eqUI ?_
 | with_reducible refine r_neI ?_
 | with_reducible refine r_neUI ?_
 | with_reducible refine r_ret ?_
 | with_reducible refine r_next ?_
 | with_reducible refine r_drop ?_
 | with_reducible refine r_not ?_
 | with_reducible refine jgn ?_
 | with_reducible refine r_blT ?_
 | with_reducible refine r_and ?_
 | with_reducible refine r_or ?_
 | with_reducible refine r_andV ?_
 | with_reducible refine r_orV ?_
 | with_reducible refine r_notV ?_
 | with_reducible refine r_ifE ?_
 | with_reducible refine r_chain ?_
 | with_reducible refine r_un ?_
 | with_reducible refine r_rU ?_
 | with_reducible refine r_call ?_
 | with_reducible refine r_cb ?_
 | with_reducible refine r_cons ?_
 | with_reducible refine r_nil ?_
 | with_reducible refine r_meth ?_
 | ((with_reducible refine r_self (dx:=?kd) (fs:=?kf) ?kh ?kl ?_);(case kh=>walk_at "hp");(case kl=>exact rfl))
 | with_reducible refine r_cmeth ?_
 | with_reducible refine r_cself ?_
 | with_reducible refine r_make ?_
 | with_reducible refine r_fldK ?_
 | ((with_reducible refine r_fat (C:=?kC) (dx:=?kd) (fs:=?kf) (v:=?kv) ?kh ?kc ?kn ?kl ?_);(case kh=>walk_at "hp");(case kc=>assumption);(case kn=>assumption);(case kl=>exact rfl))
 | with_reducible refine r_sfld ?_
 | with_reducible refine r_tup ?_
 | with_reducible refine r_lst ?_
 | ((with_reducible refine r_newT ?kc ?_);(case kc=>exact rfl))
 | ((with_reducible refine r_newL ?kc ?_);(case kc=>exact rfl))
 | with_reducible refine r_dnew ?_
 | with_reducible refine r_retN ?_
 | with_reducible refine r_for ?_
 | with_reducible refine r_rng1 ?_
 | with_reducible refine r_rng2 ?_
 | with_reducible refine r_by2 ?_
 | with_reducible refine r_zip2 ?_
 | with_reducible refine r_enum ?_
 | with_reducible refine r_enum1 ?_
 | with_reducible refine r_comp ?_
 | with_reducible refine j8t ?_
 | with_reducible refine je0 ?_
 | with_reducible refine r_gsub ?_
 | with_reducible refine r_sl ?_
 | with_reducible refine jdy ?_
 | with_reducible refine r_part ?_
 | with_reducible refine jh0 ?_
 | with_reducible refine r_intT ?_
 | with_reducible refine jgo ?_
 | with_reducible refine r_itup ?_
 | with_reducible refine r_bm ?_
 | with_reducible refine r_bm0 ?_
 | ((with_reducible refine r_tyl (xs:=?kx) ?kh ?_);(case kh=>walk_at "hp"))
 | with_reducible refine r_tm ?_
 | ((with_reducible refine r_tyT (xs:=?kx) ?kh ?_);(case kh=>walk_at "hp"))
 | with_reducible refine r_sm ?_
 | with_reducible refine r_dget ?_
 | with_reducible refine r_dput ?_
 | with_reducible refine r_tyS ?_
 | with_reducible refine r_istr ?_
 | with_reducible refine r_gnil ?_
 | with_reducible refine jgp ?_
 | ((with_reducible refine jgq (xs:=?kx) ?kh ?kl ?_);(case kh=>walk_at "hp");(case kl=>exact rfl))
 | with_reducible refine r_max ?_
 | with_reducible refine r_min ?_
 | with_reducible refine r_abs ?_
 | with_reducible refine r_intI ?_
 | with_reducible refine r_intB ?_
 | with_reducible refine r_isN ?_
 | with_reducible refine r_notN ?_
 | with_reducible refine r_try ?_
 | with_reducible refine r_gone ?_
 | with_reducible refine jh9 ?_
 | with_reducible refine r_terr ?_
 | ((with_reducible refine iteTc ?kh ?_);(case kh=>exact rfl))
 | ((with_reducible refine iteFc ?kh ?_);(case kh=>exact rfl)))
def top (i:Nat):Stmt:=PySem.Challenge.pw_lateknow_k65_too_great.main.body.getD i (.Pass ⟨0,0,0,0⟩)
abbrev s_z29:Stmt:=top 41
abbrev s_z26:Stmt:=top 12
abbrev s_z8:Stmt:=top 10
abbrev s_z23:Stmt:=top 9
abbrev s_z1:Stmt:=j1m (top 2) 0
abbrev s_z6:Stmt:=j1m (top 29) 4
abbrev s_z11:Stmt:=j1m (top 24) 4
abbrev s_z3:Stmt:=j1m (top 15) 4
abbrev s_z12:Stmt:=j1m (top 24) 3
abbrev s_z5:Stmt:=top 22
abbrev s_z10:Stmt:=j1m (top 20) 3
abbrev s_z24:Stmt:=top 19
abbrev s_z25:Stmt:=top 18
abbrev s_z28:Stmt:=top 23
abbrev s_z9:Stmt:=j1m (top 20) 4
abbrev s_z2:Stmt:=top 11
abbrev s_z0:Stmt:=top 39
abbrev s_z7:Stmt:=top 38
abbrev s_z27:Stmt:=top 13
abbrev s_z14:Stmt:=top 37
abbrev s_z17:Stmt:=top 36
abbrev s_z15:Stmt:=j1m (top 20) 0
abbrev s_z21:Stmt:=top 31
abbrev s_z18:Stmt:=top 32
abbrev s_z16:Stmt:=j1m (top 24) 0
abbrev s_z19:Stmt:=top 40
abbrev s_z22:Stmt:=top 34
abbrev s_z20:Stmt:=top 33
abbrev s_z4:Stmt:=top 35
abbrev s_z13:Stmt:=j1m (top 29) 0
structure Adr where
 f_z29:Addr
 d_z29:FuncData
 f_z26:Addr
 d_z26:FuncData
 f_z8:Addr
 d_z8:FuncData
 f_z23:Addr
 d_z23:FuncData
 f_z1:Addr
 d_z1:FuncData
 e_LateError_init:List Value
 f_z6:Addr
 d_z6:FuncData
 f_z11:Addr
 d_z11:FuncData
 f_z3:Addr
 d_z3:FuncData
 f_z12:Addr
 d_z12:FuncData
 f_z5:Addr
 d_z5:FuncData
 f_z10:Addr
 d_z10:FuncData
 f_z24:Addr
 d_z24:FuncData
 f_z25:Addr
 d_z25:FuncData
 f_z28:Addr
 d_z28:FuncData
 f_z9:Addr
 d_z9:FuncData
 f_z2:Addr
 d_z2:FuncData
 f_z0:Addr
 d_z0:FuncData
 f_z7:Addr
 d_z7:FuncData
 f_z27:Addr
 d_z27:FuncData
 ck_z27:Addr
 tb_z27:Addr
 f_z14:Addr
 d_z14:FuncData
 f_z17:Addr
 d_z17:FuncData
 f_z15:Addr
 d_z15:FuncData
 f_z21:Addr
 d_z21:FuncData
 f_z18:Addr
 d_z18:FuncData
 f_z16:Addr
 d_z16:FuncData
 f_z19:Addr
 d_z19:FuncData
 f_z22:Addr
 d_z22:FuncData
 f_z20:Addr
 d_z20:FuncData
 f_z4:Addr
 d_z4:FuncData
 f_z13:Addr
 d_z13:FuncData
 c_LateError:Addr
 c_NoState:Addr
 c_NoWish:Addr
 c_NoText:Addr
 c_TooGreat:Addr
 c_World:Addr
 c_Bags:Addr
 c_Line:Addr
 c_Shelf:Addr
 t_MOST_STATES:Tok
 t_MOST_BAGS:Tok
structure Txt (K:PySem.W.Frag) (mg:Str→Option Value) (a:Adr):Prop where
 F_z29:Fun K "law" "law" s_z29 a.f_z29 a.d_z29
 b_z29:Binds K a.d_z29 ["_law_script"] []
 m_z29:mg "law"=some (.ref a.f_z29)
 F_z26:Fun K "table" "table" s_z26 a.f_z26 a.d_z26
 b_z26:Binds K a.d_z26 ["world","start","wishes"] []
 m_z26:mg "table"=some (.ref a.f_z26)
 F_z8:Fun K "traced_rows" "traced_rows" s_z8 a.f_z8 a.d_z8
 b_z8:Binds K a.d_z8 ["world","start","wishes"] []
 m_z8:mg "traced_rows"=some (.ref a.f_z8)
 F_z23:Fun K "reached" "reached" s_z23 a.f_z23 a.d_z23
 b_z23:Binds K a.d_z23 ["world","row","wish"] []
 m_z23:mg "reached"=some (.ref a.f_z23)
 F_z1:FunD K "__init__" "LateError.__init__" s_z1 a.f_z1 a.d_z1 a.e_LateError_init
 b_z1:Binds K a.d_z1 ["self","row"] []
 b1_LateError_init:Binds K a.d_z1 ["self","row"] a.e_LateError_init
 w_LateError_init:Vals [.non] a.e_LateError_init
 F_z6:Fun K "moves" "Shelf.moves" s_z6 a.f_z6 a.d_z6
 b_z6:Binds K a.d_z6 ["self","before","wish"] []
 F_z11:Fun K "moves" "Line.moves" s_z11 a.f_z11 a.d_z11
 b_z11:Binds K a.d_z11 ["self","before","wish"] []
 F_z3:Fun K "priced" "World.priced" s_z3 a.f_z3 a.d_z3
 b_z3:Binds K a.d_z3 ["self","before","wish","states"] []
 F_z12:Fun K "price" "Line.price" s_z12 a.f_z12 a.d_z12
 b_z12:Binds K a.d_z12 ["self","before","wish","after"] []
 F_z5:Fun K "ways_between" "ways_between" s_z5 a.f_z5 a.d_z5
 b_z5:Binds K a.d_z5 ["before","after"] []
 m_z5:mg "ways_between"=some (.ref a.f_z5)
 F_z10:Fun K "price" "Bags.price" s_z10 a.f_z10 a.d_z10
 b_z10:Binds K a.d_z10 ["self","before","wish","after"] []
 F_z24:Fun K "filled" "filled" s_z24 a.f_z24 a.d_z24
 b_z24:Binds K a.d_z24 ["loads","at","size"] []
 m_z24:mg "filled"=some (.ref a.f_z24)
 F_z25:Fun K "opened" "opened" s_z25 a.f_z25 a.d_z25
 b_z25:Binds K a.d_z25 ["loads","size"] []
 m_z25:mg "opened"=some (.ref a.f_z25)
 F_z28:Fun K "sent" "sent" s_z28 a.f_z28 a.d_z28
 b_z28:Binds K a.d_z28 ["places","at","wish"] []
 m_z28:mg "sent"=some (.ref a.f_z28)
 F_z9:Fun K "moves" "Bags.moves" s_z9 a.f_z9 a.d_z9
 b_z9:Binds K a.d_z9 ["self","before","wish"] []
 F_z2:Fun K "without_trace" "without_trace" s_z2 a.f_z2 a.d_z2
 b_z2:Binds K a.d_z2 ["row"] []
 m_z2:mg "without_trace"=some (.ref a.f_z2)
 F_z0:Fun K "_law_both_refused" "_law_both_refused" s_z0 a.f_z0 a.d_z0
 b_z0:Binds K a.d_z0 ["_law_world","_law_start","_law_wishes"] []
 m_z0:mg "_law_both_refused"=some (.ref a.f_z0)
 F_z7:Fun K "_law_refused" "_law_refused" s_z7 a.f_z7 a.d_z7
 b_z7:Binds K a.d_z7 ["_law_world","_law_start","_law_wishes","_law_by_best"] []
 m_z7:mg "_law_refused"=some (.ref a.f_z7)
 F_z27:Fun K "best" "best" s_z27 a.f_z27 a.d_z27
 b_z27:Binds K a.d_z27 ["world","start","wishes"] []
 m_z27:mg "best"=some (.ref a.f_z27)
 ck_z27:a.d_z27.code=.ref a.ck_z27
 hd_best:PySem.W.codeHdIn K a.ck_z27 a.tb_z27=true
 F_z14:Fun K "_law_counts" "_law_counts" s_z14 a.f_z14 a.d_z14
 b_z14:Binds K a.d_z14 ["_law_start","_law_wishes","_law_room"] []
 m_z14:mg "_law_counts"=some (.ref a.f_z14)
 F_z17:Fun K "_law_after" "_law_after" s_z17 a.f_z17 a.d_z17
 b_z17:Binds K a.d_z17 ["_law_state","_law_wish","_law_room"] []
 m_z17:mg "_law_after"=some (.ref a.f_z17)
 F_z15:Fun K "__init__" "Bags.__init__" s_z15 a.f_z15 a.d_z15
 b_z15:Binds K a.d_z15 ["self","room"] []
 F_z21:Fun K "_law_cell" "_law_cell" s_z21 a.f_z21 a.d_z21
 b_z21:Binds K a.d_z21 ["_law_script","_law_k"] []
 m_z21:mg "_law_cell"=some (.ref a.f_z21)
 F_z18:Fun K "_law_mixed" "_law_mixed" s_z18 a.f_z18 a.d_z18
 b_z18:Binds K a.d_z18 ["_law_cell_here","_law_k"] []
 m_z18:mg "_law_mixed"=some (.ref a.f_z18)
 F_z16:Fun K "__init__" "Line.__init__" s_z16 a.f_z16 a.d_z16
 b_z16:Binds K a.d_z16 ["self","many"] []
 F_z19:Fun K "_law_shelf" "_law_shelf" s_z19 a.f_z19 a.d_z19
 b_z19:Binds K a.d_z19 ["_law_script","_law_head"] []
 m_z19:mg "_law_shelf"=some (.ref a.f_z19)
 F_z22:Fun K "_law_same" "_law_same" s_z22 a.f_z22 a.d_z22
 b_z22:Binds K a.d_z22 ["_law_found","_law_due"] []
 m_z22:mg "_law_same"=some (.ref a.f_z22)
 F_z20:Fun K "_law_whole" "_law_whole" s_z20 a.f_z20 a.d_z20
 b_z20:Binds K a.d_z20 ["_law_found"] []
 m_z20:mg "_law_whole"=some (.ref a.f_z20)
 F_z4:Fun K "_law_all_same" "_law_all_same" s_z4 a.f_z4 a.d_z4
 b_z4:Binds K a.d_z4 ["_law_found","_law_due"] []
 m_z4:mg "_law_all_same"=some (.ref a.f_z4)
 F_z13:Fun K "__init__" "Shelf.__init__" s_z13 a.f_z13 a.d_z13
 b_z13:Binds K a.d_z13 ["self","things"] []
 ek_LateError:ErrK K a.c_LateError bmV a.f_z1
 m_LateError:mg "LateError"=some (.ref a.c_LateError)
 m_NoState:mg "NoState"=some (.ref a.c_NoState)
 m_NoWish:mg "NoWish"=some (.ref a.c_NoWish)
 m_NoText:mg "NoText"=some (.ref a.c_NoText)
 ek_TooGreat:ErrK K a.c_TooGreat (.ref a.c_LateError :: bmV) a.f_z1
 ke_TooGreat_NoState:PySem.W.kitOne K (.ref a.c_TooGreat) (.ref a.c_NoState)=some false
 ke_TooGreat_NoWish:PySem.W.kitOne K (.ref a.c_TooGreat) (.ref a.c_NoWish)=some false
 ke_TooGreat_NoText:PySem.W.kitOne K (.ref a.c_TooGreat) (.ref a.c_NoText)=some false
 kt_TooGreat_ValueError:PySem.W.kitOne K (.ref a.c_TooGreat) (.type "ValueError")=some true
 m_TooGreat:mg "TooGreat"=some (.ref a.c_TooGreat)
 m_Bags:mg "Bags"=some (.ref a.c_Bags)
 cl_Bags:Cls K a.c_Bags
 mk_Bags:Mk K a.c_Bags a.f_z15
 na_Bags_room:NoAttr K a.c_Bags "room"
 me_Bags_moves:Meth K a.c_Bags "moves" a.f_z9
 me_Bags_price:Meth K a.c_Bags "price" a.f_z10
 me_Bags_priced:Meth K a.c_Bags "priced" a.f_z3
 m_Line:mg "Line"=some (.ref a.c_Line)
 cl_Line:Cls K a.c_Line
 mk_Line:Mk K a.c_Line a.f_z16
 na_Line_many:NoAttr K a.c_Line "many"
 me_Line_moves:Meth K a.c_Line "moves" a.f_z11
 me_Line_price:Meth K a.c_Line "price" a.f_z12
 me_Line_priced:Meth K a.c_Line "priced" a.f_z3
 m_Shelf:mg "Shelf"=some (.ref a.c_Shelf)
 cl_Shelf:Cls K a.c_Shelf
 mk_Shelf:Mk K a.c_Shelf a.f_z13
 na_Shelf_things:NoAttr K a.c_Shelf "things"
 me_Shelf_moves:Meth K a.c_Shelf "moves" a.f_z6
 n_ValueError:mg "ValueError"=none
 n_abs:mg "abs"=none
 n_bool:mg "bool"=none
 n_int:mg "int"=none
 n_isinstance:mg "isinstance"=none
 n_len:mg "len"=none
 n_list:mg "list"=none
 n_min:mg "min"=none
 n_range:mg "range"=none
 n_reversed:mg "reversed"=none
 n_set:mg "set"=none
 n_sorted:mg "sorted"=none
 n_str:mg "str"=none
 n_sum:mg "sum"=none
 n_tuple:mg "tuple"=none
 n_zip:mg "zip"=none
 m_MOST_STATES:mg "MOST_STATES"=some (.int 60 a.t_MOST_STATES)
 m_MOST_BAGS:mg "MOST_BAGS"=some (.int 500 a.t_MOST_BAGS)
section
variable {P:Program}{w:World}{K:PySem.W.Frag}{mg:Str→Option Value}{base:Heap}{a:Adr}
seal PA PE PS PSs PT
theorem j20:FnScope ["_law_script","_law_head","_law_many","_law_wide","_law_start","_law_wishes","_law_world","_law_room","_law_counts_here","_law_found"] ["_law_script"] (j01 s_z29):=⟨rfl,rfl,rfl,by decide +kernel,rfl,by decide +kernel,by decide +kernel⟩
theorem sc_z26:FnScope ["world","start","wishes"] ["world","start","wishes"] (j01 s_z26):=⟨rfl,rfl,rfl,by decide +kernel,rfl,by decide +kernel,by decide +kernel⟩
theorem jmg:FnScope ["world","start","wishes","rows","wish"] ["world","start","wishes"] (j01 s_z8):=⟨rfl,rfl,rfl,by decide +kernel,rfl,by decide +kernel,by decide +kernel⟩
theorem j7u:FnScope ["world","row","wish","found","before","paid","after","price"] ["world","row","wish"] (j01 s_z23):=⟨rfl,rfl,rfl,by decide +kernel,rfl,by decide +kernel,by decide +kernel⟩
theorem sc_z1:FnScope ["self","row"] ["self","row"] (j01 s_z1):=⟨rfl,rfl,rfl,by decide +kernel,rfl,by decide +kernel,by decide +kernel⟩
theorem sc_z6:FnScope ["self","before","wish"] ["self","before","wish"] (j01 s_z6):=⟨rfl,rfl,rfl,by decide +kernel,rfl,by decide +kernel,by decide +kernel⟩
theorem sc_z11:FnScope ["self","before","wish"] ["self","before","wish"] (j01 s_z11):=⟨rfl,rfl,rfl,by decide +kernel,rfl,by decide +kernel,by decide +kernel⟩
theorem sc_z3:FnScope ["self","before","wish","states","pairs"] ["self","before","wish","states"] (j01 s_z3):=⟨rfl,rfl,rfl,by decide +kernel,rfl,by decide +kernel,by decide +kernel⟩
theorem sc_z12:FnScope ["self","before","wish","after"] ["self","before","wish","after"] (j01 s_z12):=⟨rfl,rfl,rfl,by decide +kernel,rfl,by decide +kernel,by decide +kernel⟩
theorem sc_z5:FnScope ["before","after"] ["before","after"] (j01 s_z5):=⟨rfl,rfl,rfl,by decide +kernel,rfl,by decide +kernel,by decide +kernel⟩
theorem jic:FnScope ["self","before","wish","after","places"] ["self","before","wish","after"] (j01 s_z10):=⟨rfl,rfl,rfl,by decide +kernel,rfl,by decide +kernel,by decide +kernel⟩
theorem sc_z24:FnScope ["loads","at","size"] ["loads","at","size"] (j01 s_z24):=⟨rfl,rfl,rfl,by decide +kernel,rfl,by decide +kernel,by decide +kernel⟩
theorem sc_z25:FnScope ["loads","size"] ["loads","size"] (j01 s_z25):=⟨rfl,rfl,rfl,by decide +kernel,rfl,by decide +kernel,by decide +kernel⟩
theorem sc_z28:FnScope ["places","at","wish"] ["places","at","wish"] (j01 s_z28):=⟨rfl,rfl,rfl,by decide +kernel,rfl,by decide +kernel,by decide +kernel⟩
theorem jmm:FnScope ["self","before","wish","loads","states"] ["self","before","wish"] (j01 s_z9):=⟨rfl,rfl,rfl,by decide +kernel,rfl,by decide +kernel,by decide +kernel⟩
theorem sc_z2:FnScope ["row"] ["row"] (j01 s_z2):=⟨rfl,rfl,rfl,by decide +kernel,rfl,by decide +kernel,by decide +kernel⟩
theorem sc_z0:FnScope ["_law_world","_law_start","_law_wishes"] ["_law_world","_law_start","_law_wishes"] (j01 s_z0):=⟨rfl,rfl,rfl,by decide +kernel,rfl,by decide +kernel,by decide +kernel⟩
theorem jfn:FnScope ["_law_world","_law_start","_law_wishes","_law_by_best","_law_good","error","_law_others"] ["_law_world","_law_start","_law_wishes","_law_by_best"] (j01 s_z7):=⟨rfl,rfl,rfl,by decide +kernel,rfl,by decide +kernel,by decide +kernel⟩
theorem j4w:FnScope ["world","start","wishes","rows","last","state","least","way","row"] ["world","start","wishes"] (j01 s_z27):=⟨rfl,rfl,rfl,by decide +kernel,rfl,by decide +kernel,by decide +kernel⟩
theorem j4x:FnScope ["_law_start","_law_wishes","_law_room","_law_row","_law_counts_here","_law_wish","_law_more","_law_state","_law_after_here"] ["_law_start","_law_wishes","_law_room"] (j01 s_z14):=⟨rfl,rfl,rfl,by decide +kernel,rfl,by decide +kernel,by decide +kernel⟩
theorem jf7:FnScope ["_law_state","_law_wish","_law_room","_law_found","_law_k"] ["_law_state","_law_wish","_law_room"] (j01 s_z17):=⟨rfl,rfl,rfl,by decide +kernel,rfl,by decide +kernel,by decide +kernel⟩
theorem sc_z15:FnScope ["self","room"] ["self","room"] (j01 s_z15):=⟨rfl,rfl,rfl,by decide +kernel,rfl,by decide +kernel,by decide +kernel⟩
theorem sc_z21:FnScope ["_law_script","_law_k"] ["_law_script","_law_k"] (j01 s_z21):=⟨rfl,rfl,rfl,by decide +kernel,rfl,by decide +kernel,by decide +kernel⟩
theorem jid:FnScope ["_law_cell_here","_law_k","_law_number"] ["_law_cell_here","_law_k"] (j01 s_z18):=⟨rfl,rfl,rfl,by decide +kernel,rfl,by decide +kernel,by decide +kernel⟩
theorem sc_z16:FnScope ["self","many"] ["self","many"] (j01 s_z16):=⟨rfl,rfl,rfl,by decide +kernel,rfl,by decide +kernel,by decide +kernel⟩
theorem jf8:FnScope ["_law_script","_law_head","_law_things","_law_wishes"] ["_law_script","_law_head"] (j01 s_z19):=⟨rfl,rfl,rfl,by decide +kernel,rfl,by decide +kernel,by decide +kernel⟩
theorem sc_z22:FnScope ["_law_found","_law_due"] ["_law_found","_law_due"] (j01 s_z22):=⟨rfl,rfl,rfl,by decide +kernel,rfl,by decide +kernel,by decide +kernel⟩
theorem sc_z20:FnScope ["_law_found"] ["_law_found"] (j01 s_z20):=⟨rfl,rfl,rfl,by decide +kernel,rfl,by decide +kernel,by decide +kernel⟩
theorem jms:FnScope ["_law_found","_law_due","_law_one","_law_other"] ["_law_found","_law_due"] (j01 s_z4):=⟨rfl,rfl,rfl,by decide +kernel,rfl,by decide +kernel,by decide +kernel⟩
theorem sc_z13:FnScope ["self","things"] ["self","things"] (j01 s_z13):=⟨rfl,rfl,rfl,by decide +kernel,rfl,by decide +kernel,by decide +kernel⟩
def jie:Pos:=⟨41,34,41,60⟩
def jif:Str:=("best"++".<locals>.")++"<lambda>"
theorem set_perm:∀ (l:List Int) (i:Nat) (w:Int),i < l.length→(l.set i w).Perm (w :: l.eraseIdx i)
 | [],_,_,h=>by simp at h
 | x :: r,0,w,_=>List.Perm.refl _
 | x :: r,i+1,w,h=>by
  have:=set_perm r i w (by simpa using h)
  exact (this.cons x).trans (List.Perm.swap w x _)
theorem j31:∀ (l:List Int) (i:Nat),i < l.length→l.Perm (l.getD i 0 :: l.eraseIdx i)
 | [],_,h=>by simp at h
 | x :: r,0,_=>List.Perm.refl _
 | x :: r,i+1,h=>by
  have:=j31 r i (by simpa using h)
  exact (this.cons x).trans (List.Perm.swap _ x _)
theorem j9z {l:List Int}{i j:Nat}{w:Int} (hi:i < l.length) (hj:j < l.length) (e:l.getD i 0=l.getD j 0):(l.set i w).Perm (l.set j w):=by
 have a:=(j31 l i hi).symm.trans (j31 l j hj)
 rw[e] at a
 have b:=(List.perm_cons _).mp a
 exact (set_perm l i w hi).trans ((b.cons w).trans (set_perm l j w hj).symm)
theorem j32 (v:Int):∀ {l:List Int},l.Pairwise (·≤·)→l=(l.filter fun x=>decide (x < v))++l.filter fun x=>!decide (x < v)
 | [],_=>rfl
 | x :: r,h=>by
  have hr:=j32 v (List.Pairwise.of_cons h)
  by_cases c:x < v
  ·simp only[List.filter_cons,decide_eq_true c,Bool.not_true,if_true,List.cons_append]
   rw[if_neg (by decide)]
   rw[← hr]
  ·have hx:=(List.pairwise_cons.mp h).1
   have e:r.filter (fun x=>decide (x < v))=[]:=by
    rw[List.filter_eq_nil_iff]
    intro y hy
    have:=hx y hy
    simp
    omega
   simp only[List.filter_cons,decide_eq_false c,Bool.not_false,if_true]
   rw[e] at hr
   rw[if_neg (by decide),e,List.nil_append]
   rw[List.nil_append] at hr
   rw[← hr]
theorem j0y {a b:List Int} (h:a.Perm b) (s1:a.Pairwise (·≤·)) (s2:b.Pairwise (·≤·)):a=b :=
 List.Perm.eq_of_pairwise (fun x y _ _ h1 h2=>Int.le_antisymm h1 h2) s1 s2 h
theorem ja0 {l m:List Int}{j:Nat} (h:j < l.length):(l++m).getD j 0=l.getD j 0:=by
 rw[List.getD_eq_getElem?_getD,List.getD_eq_getElem?_getD,List.getElem?_append_left h]
theorem jbu {l m:List Int}{j:Nat} (h:¬ j < l.length) (h2:j < (l++m).length):(l++m).getD j 0∈m:=by
 rw[List.getD_eq_getElem?_getD,List.getElem?_append_right (by omega),List.getElem?_eq_getElem (by rw[List.length_append] at h2;omega)]
 exact List.getElem_mem _
theorem jbv {l:List Int}{j:Nat} (h:j < l.length):l.getD j 0∈l:=by
 rw[List.getD_eq_getElem?_getD,List.getElem?_eq_getElem h]
 exact List.getElem_mem h
theorem ja1 {a b:List Int}{k j:Nat}{w:Int} (sa:a.Pairwise (·≤·)) (sb:b.Pairwise (·≤·)) (hk:k < a.length) (hw:a.getD k 0 < w) (hp:b.Perm (a.set k w)) (hj:j < a.length)
  (heq:∀ i,i < j→a.getD i 0=b.getD i 0) (hne:a.getD j 0≠b.getD j 0):a.getD j 0=a.getD k 0:=by
 have hlen:b.length=a.length:=by rw[hp.length_eq,List.length_set]
 generalize hv:a.getD k 0=v at *
 have pb:b.Perm (w :: a.eraseIdx k):=hp.trans (set_perm a k w hk)
 have pa:a.Perm (v :: a.eraseIdx k):=by have:=j31 a k hk;rwa [hv] at this
 have c1:¬ a.getD j 0 < v:=by
  intro q
  have f:(a.filter fun x=>decide (x < v))=b.filter fun x=>decide (x < v):=by
   refine j0y ?_ (sa.filter _) (sb.filter _)
   have e1:=pa.filter (fun x=>decide (x < v))
   have e2:=pb.filter (fun x=>decide (x < v))
   rw[List.filter_cons,if_neg (by simp)] at e1
   rw[List.filter_cons,if_neg (by simp;omega)] at e2
   exact e1.trans e2.symm
  have ea:=j32 v sa
  have eb:=j32 v sb
  by_cases hl:j < (a.filter fun x=>decide (x < v)).length
  ·refine hne ?_
   rw[ea,ja0 hl,f,← ja0 (m:=b.filter fun x=>!decide (x < v)) (by rw[← f];exact hl),← eb]
  ·have:=jbu (m:=a.filter fun x=>!decide (x < v)) hl (by rw[← ea];exact hj)
   rw[← ea] at this
   have h3:=(List.mem_filter.mp this).2
   rw[decide_eq_true q] at h3
   cases h3
 by_cases c2:v < a.getD j 0
 ·exfalso
  have ct:∀ l:List Int,l.count v=(l.take j).count v+(l.drop j).count v:=fun l=>by
   rw[← List.count_append,List.take_append_drop]
  have tk:a.take j=b.take j:=by
   refine List.ext_getElem (by rw[List.length_take,List.length_take];omega) fun i h1 h2=>?_
   have hi:i < j:=by rw[List.length_take] at h1;omega
   have:=heq i hi
   rw[List.getD_eq_getElem?_getD,List.getD_eq_getElem?_getD,List.getElem?_eq_getElem (by omega),List.getElem?_eq_getElem (by omega)] at this
   rw[List.getElem_take,List.getElem_take]
   exact this
  have dz:(a.drop j).count v=0:=by
   rw[List.count_eq_zero]
   intro hm
   obtain⟨i,hi,e⟩:=List.getElem_of_mem hm
   rw[List.getElem_drop] at e
   have hij:j+i < a.length:=by rw[List.length_drop] at hi;omega
   have le:a[j]≤a[j+i]:=by
    by_cases z:i=0
    ·subst z;exact Int.le_refl _
    ·exact List.pairwise_iff_getElem.mp sa j (j+i) hj hij (by omega)
   rw[List.getD_eq_getElem?_getD,List.getElem?_eq_getElem hj,Option.getD_some] at c2
   omega
  have n1:=pa.count_eq v
  have n2:=pb.count_eq v
  rw[List.count_cons_self] at n1
  rw[List.count_cons_of_ne (by omega)] at n2
  have n3:=ct a
  have n4:=ct b
  rw[tk] at n3
  omega
 ·omega
theorem jbw {a b:List Int}{k:Nat}{w:Int} (hk:k < a.length) (hw:a.getD k 0 < w) (hp:b.Perm (a.set k w)):∃ j,j < a.length∧a.getD j 0≠b.getD j 0:=by
 have hlen:b.length=a.length:=by rw[hp.length_eq,List.length_set]
 refine Classical.byContradiction fun no=>?_
 have e:a=b:=by
  refine List.ext_getElem hlen.symm fun j h1 h2=>?_
  refine Classical.byContradiction fun q=>no ⟨j,h1,?_⟩
  rw[List.getD_eq_getElem?_getD,List.getD_eq_getElem?_getD,List.getElem?_eq_getElem h1,List.getElem?_eq_getElem h2]
  exact q
 have pb:b.Perm (w :: a.eraseIdx k):=hp.trans (set_perm a k w hk)
 have pa:=j31 a k hk
 rw[← e] at pb
 have n1:=pa.count_eq w
 have n2:=pb.count_eq w
 rw[List.count_cons_self] at n2
 rw[List.count_cons_of_ne (by omega)] at n1
 omega
def Goes (R:Int) (os:List Int) (s:Int) (fs:List Int) (pr:Int):Prop:=fs.Pairwise (·≤·)∧((pr=1∧fs.Perm (os++[s]))∨(pr=0∧∃ k,k < os.length∧os.getD k 0+s≤R∧fs.Perm (os.set k (os.getD k 0+s))))
def Lds (R:Int) (os:List Int):Prop:=os.Pairwise (·≤·)∧∀ x∈os,1≤x∧x≤R
theorem jf9 {l:List Int}{k:Nat}{w:Int} (h:k < l.length):l.take k++[w]++l.drop (k+1)=l.set k w:=by
 rw[List.set_eq_take_append_cons_drop,if_pos h]
 simp
def dT (t:List Int):L2.D:=.tup (t.map D.int)
theorem PairsH.keep {H H':Hp} (e:Kp H H') {vs:List V}{Ks:List (List Int × Int)} (r:PairsH H vs Ks):PairsH H' vs Ks:=by
 induction r with
 | nil=>exact .nil
 | cons x y _ ih=>exact .cons (e _ _ x rfl) (e _ _ y rfl) ih
theorem PairsH.snoc {H:Hp}{c a:Addr}{L:List Int}{x:Int} (hc:H c=some (.tup [.ref a,.int x])) (ha:H a=some (.tup (L.map V.int))) {vs:List V}{Ks:List (List Int × Int)} (r:PairsH H vs Ks):PairsH H (vs++[.ref c]) (Ks++[(L,x)]):=by
 induction r with
 | nil=>exact .cons hc ha .nil
 | cons x y _ ih=>exact .cons x y ih
theorem RefsH.keep {H H':Hp} (e:Kp H H') {vs:List V}{Ls:List (List Int)} (r:RefsH H vs Ls):RefsH H' vs Ls:=by
 induction r with
 | nil=>exact .nil
 | cons x _ ih=>exact .cons (e _ _ x rfl) ih
theorem RefsH.snoc {H H':Hp}{a:Addr}{L:List Int} (e:Ext H H') (ha:H' a=some (.tup (L.map V.int))) {vs:List V}{Ls:List (List Int)} (r:RefsH H vs Ls):RefsH H' (vs++[.ref a]) (Ls++[L]):=by
 induction r with
 | nil=>exact .cons ha .nil
 | cons x _ ih=>exact .cons (e _ _ x) ih
def prI (os L:List Int):Int:=if L.length=os.length then 0 else 1
theorem Goes.pr {R s pr:Int}{os L:List Int} (h:Goes R os s L pr):pr=prI os L:=by
 unfold prI
 rcases h.2 with⟨e,p⟩ | ⟨e,k,hk,_,p⟩
 ·have:=p.length_eq
  rw[List.length_append,List.length_singleton] at this
  rw[if_neg (by omega),e]
 ·have:=p.length_eq
  rw[List.length_set] at this
  rw[if_pos this,e]
inductive PairsV (H:Hp):List V→List (List Int × V)→Prop
 | nil:PairsV H [] []
 | cons {c a:Addr}{L:List Int}{x:V}{vs:List V}{Ks:List (List Int × V)}:H c=some (.tup [.ref a,x])→H a=some (.tup (L.map V.int))→PairsV H vs Ks→PairsV H (.ref c :: vs) ((L,x) :: Ks)
def ways (ns ms:List Int):Int:=(List.zipWith (fun a b:Int=>((a-b).natAbs:Int)) ns ms).sum
theorem j44 {cs:List Int}{j:Nat} (h:j≤cs.length):cutV (cs.map V.int) (some (j:Int)) none=(cs.drop j).map V.int:=by
 unfold cutV
 rw[HT.sIx_nat,HT.sIx_none,List.length_map,Nat.min_eq_left h,← List.map_drop,List.take_of_length_le (by rw[List.length_map,List.length_drop];exact Nat.le_refl _)]
theorem j45 {cs:List Int}{j:Nat} (h:j≤cs.length):cutV (cs.map V.int) none (some (j:Int))=(cs.take j).map V.int:=by
 unfold cutV
 rw[HT.sIx_nat,HT.sIx_none,List.length_map,Nat.min_eq_left h,List.drop_zero,Nat.sub_zero,← List.map_take]
def Sent (ns:List Int) (k:Nat) (w:Int) (ms:List Int):Prop:=ms.Perm (ns.take k++[w]++ns.drop (k+1))∧ms.Pairwise (·≤·)
def GoL (ns:List Int) (w:Int) (L:List Int):Prop:=(w∈ns∧L=ns)∨(w∉ns∧∃ k,k < ns.length∧Sent ns k w L)
theorem Sent.len {ns ms:List Int}{k:Nat}{w:Int} (h:Sent ns k w ms) (hk:k < ns.length):ms.length=ns.length:=by
 rw[h.1.length_eq]
 simp
 omega
theorem Sent.mem {ns ms:List Int}{k:Nat}{w:Int} (h:Sent ns k w ms):w∈ms:=h.1.mem_iff.mpr (by simp)
def nmL (c:Nat):Bool:=decide (97≤c) && decide (c≤122)
def nmS (z:Str):Bool:=decide (1≤z.length) && decide (z.length≤8) && z.cps.toList.all nmL
theorem jig {z:Str} (h:nmS z=true):AscS z:=by
 unfold nmS at h
 rw[Bool.and_eq_true] at h
 unfold AscS
 rw[Array.all_eq_true_iff_forall_mem]
 intro c hc
 have:=List.all_eq_true.mp h.2 c (by simpa using hc)
 unfold nmL at this
 rw[Bool.and_eq_true,decide_eq_true_iff,decide_eq_true_iff] at this
 exact decide_eq_true (by omega)
structure Names (ss:List Str):Prop where
 nm:∀ s∈ss,nmS s=true
 nd:ss.Nodup
 lo:1≤ss.length
 hi:ss.length≤8
theorem jfa {ss:List Str}{k:Int} (h0:0≤k) (h1:k < ss.length):atI (ss.map V.str) k=some (.str (ss.getD k.toNat ⟨#[]⟩)):=by
 refine j3k h0 ?_
 rw[List.getElem?_map,List.getD_eq_getElem?_getD,List.getElem?_eq_getElem (show k.toNat < ss.length by omega)]
 rfl
theorem j77 {H:Hp}{p:Addr}{ss:List Str} (h:H p=some (.tup (ss.map V.str))):Rep H (.tup (ss.map D.str)) (.ref p):=Rep.tupI h (by
 clear h
 induction ss with
 | nil=>exact .nil
 | cons x r ih=>exact .cons .strI ih)
theorem jbx {H:Hp}{p:Addr}{ss:List Str} (h:H p=some (.lst (ss.map V.str))):Rep H (.lst (ss.map D.str)) (.ref p):=Rep.lstI h (by
 clear h
 induction ss with
 | nil=>exact .nil
 | cons x r ih=>exact .cons .strI ih)
theorem fineS (ss:List Str):(D.tup (ss.map D.str)).fine=true:=by
 show D.fineL (ss.map D.str)=true
 induction ss with
 | nil=>rfl
 | cons x r ih=>exact ih
theorem depS (ss:List Str):D.depthL (ss.map D.str)=0:=by
 induction ss with
 | nil=>rfl
 | cons x r ih=>show max 0 (D.depthL (r.map D.str))=0;rw[ih];rfl
theorem nmS_ok {z:Str} (h:nmS z=true):PyData.strOk z=true:=by
 have h1:=jig h
 unfold AscS at h1
 unfold PyData.strOk
 rw[Array.all_eq_true_iff_forall_mem] at h1 ⊢
 intro c hc
 have:=of_decide_eq_true (h1 c hc)
 exact decide_eq_true (by omega)
theorem eqOkS:∀ {ss:List Str},(∀ s∈ss,nmS s=true)→(D.lst (ss.map D.str)).eqOk=true
 | [],_=>rfl
 | x :: r,h=>by
  show (PyData.strOk x && D.eqOkL (r.map D.str))=true
  rw[nmS_ok (h x List.mem_cons_self),Bool.true_and]
  exact eqOkS (ss:=r) fun s hs=>h s (List.mem_cons_of_mem _ hs)
inductive G65
 | line
 | bags (R:Int)
def G65.go:G65→Int→List Int→List Int→Prop
 | .line,w,ns,L=>GoL ns w L
 | .bags R,s,os,L=>∃ pr,Goes R os s L pr
def G65.ok:G65→Nat→List Int→Prop
 | .line,_,ns=>1≤ns.length∧ns.length≤18
 | .bags R,n,os=>Lds R os∧os.length≤n
def G65.okW:G65→Int→Prop
 | .line,_=>True
 | .bags R,s=>1≤s∧s≤R
def G65.pr:G65→List Int→List Int→Int
 | .line,ns,L=>ways ns L
 | .bags _,os,L=>prI os L
theorem G65.next {g:G65}{n:Nat}{w:Int}{ns L:List Int} (h:g.ok n ns) (hw:g.okW w) (hg:g.go w ns L):g.ok (n+1) L:=by
 cases g with
 | line =>
  obtain⟨h1,h2⟩:=h
  rcases hg with⟨_,rfl⟩ | ⟨_,k,hk,hs⟩
  ·exact⟨h1,h2⟩
  ·have:=hs.len hk
   exact⟨by omega,by omega⟩
 | bags R =>
  obtain⟨⟨h1,h2⟩,h3⟩:=h
  obtain⟨w1,w2⟩:=hw
  obtain⟨pr,g1,⟨_,pm⟩ | ⟨_,k,hk,hR,pm⟩⟩:=hg
  ·refine⟨⟨g1,fun x hx=>?_⟩,by have:=pm.length_eq;simp at this;omega⟩
   rcases List.mem_append.mp (pm.mem_iff.mp hx) with z | z
   ·exact h2 x z
   ·rw[List.mem_singleton.mp z];exact⟨w1,w2⟩
  ·refine⟨⟨g1,fun x hx=>?_⟩,by have:=pm.length_eq;simp at this;omega⟩
   rcases List.mem_or_eq_of_mem_set (pm.mem_iff.mp hx) with z | z
   ·exact h2 x z
   ·have hm:ns.getD k 0∈ns:=by rw[List.getD_eq_getElem?_getD,List.getElem?_eq_getElem hk];exact List.getElem_mem hk
    have:=h2 _ hm
    rw[z]
    exact⟨by omega,hR⟩
def Stp (g:G65) (w:Int) (A B:List (List Int)):Prop:=B.Nodup∧∀ L,L∈B↔∃ b∈A,g.go w b L
structure Chn (g:G65) (A:List (List Int)) (ws:List Int) (Rs:List (List (List Int))):Prop where
 ln:Rs.length=ws.length+1
 hd:Rs.getD 0 []=A
 st:∀ i,i < ws.length→Stp g (ws.getD i 0) (Rs.getD i []) (Rs.getD (i+1) [])
theorem Chn.nil {g:G65}{A:List (List Int)}:Chn g A [] [A]:=⟨rfl,rfl,fun i h=>absurd h (by simp)⟩
theorem j4y {α:Type}{l m:List α}{i:Nat}{d:α} (h:i < l.length):(l++m).getD i d=l.getD i d:=by rw[List.getD_eq_getElem?_getD,List.getD_eq_getElem?_getD,List.getElem?_append_left h]
theorem j2i {α:Type}{l:List α}{x d:α}:(l++[x]).getD l.length d=x:=by rw[List.getD_eq_getElem?_getD,List.getElem?_append_right (Nat.le_refl _),Nat.sub_self];rfl
theorem Chn.snoc {g:G65}{A C:List (List Int)}{ws:List Int}{w:Int}{Rs:List (List (List Int))} (h:Chn g A ws Rs) (hs:Stp g w (Rs.getD ws.length []) C):Chn g A (ws++[w]) (Rs++[C]):=by
 have hl:=h.ln
 refine⟨by simp[hl],by rw[j4y (by omega)];exact h.hd,fun i hi=>?_⟩
 rw[List.length_append,List.length_singleton] at hi
 by_cases z:i < ws.length
 ·rw[j4y z,j4y (by omega),j4y (by omega)]
  exact h.st i z
 ·obtain rfl:i=ws.length:=by omega
  rw[j2i,j4y (by omega),show ws.length+1=Rs.length from hl.symm,j2i]
  exact hs
theorem Chn.nd {g:G65}{A:List (List Int)}{ws:List Int}{Rs:List (List (List Int))} (h:Chn g A ws Rs) (nA:A.Nodup):∀ i,i≤ws.length→(Rs.getD i []).Nodup
 | 0,_=>by rw[h.hd];exact nA
 | i+1,hi=>(h.st i (by omega)).1
theorem Chn.ok {g:G65}{A:List (List Int)}{ws:List Int}{Rs:List (List (List Int))}{n:Nat} (h:Chn g A ws Rs) (hA:∀ L∈A,g.ok n L) (hw:∀ w∈ws,g.okW w):∀ i,i≤ws.length→∀ L∈Rs.getD i [],g.ok (n+i) L
 | 0,_,L,hL=>hA L (by rw[← h.hd];exact hL)
 | i+1,hi,L,hL=>by
  obtain⟨b,hb,hg⟩:=((h.st i (by omega)).2 L).mp hL
  have hx:ws.getD i 0∈ws:=by rw[List.getD_eq_getElem?_getD,List.getElem?_eq_getElem (show i < ws.length by omega)];exact List.getElem_mem _
  exact G65.next (Chn.ok h hA hw i (by omega) b hb) (hw _ hx) hg
theorem Chn.same {g:G65}{A:List (List Int)}{ws us:List Int}{Rs Ts:List (List (List Int))} (h:Chn g A ws Rs) (k:Chn g A us Ts) (e:∀ i,i < ws.length→i < us.length→ws.getD i 0=us.getD i 0):∀ i,i≤ws.length→i≤us.length→∀ L,L∈Rs.getD i []↔L∈Ts.getD i []
 | 0,_,_,L=>by rw[h.hd,k.hd]
 | i+1,h1,h2,L=>by
  rw[(h.st i (by omega)).2,(k.st i (by omega)).2,e i (by omega) (by omega)]
  exact⟨fun⟨b,hb,hg⟩=>⟨b,(Chn.same h k e i (by omega) (by omega) b).mp hb,hg⟩,fun⟨b,hb,hg⟩=>⟨b,(Chn.same h k e i (by omega) (by omega) b).mpr hb,hg⟩⟩
theorem Chn.len {g:G65}{A:List (List Int)}{ws us:List Int}{Rs Ts:List (List (List Int))} (nA:A.Nodup) (h:Chn g A ws Rs) (k:Chn g A us Ts) (e:∀ i,i < ws.length→i < us.length→ws.getD i 0=us.getD i 0) (i:Nat) (h1:i≤ws.length) (h2:i≤us.length):(Rs.getD i []).length=(Ts.getD i []).length :=
 ((List.perm_ext_iff_of_nodup (h.nd nA i h1) (k.nd nA i h2)).mpr fun L=>h.same k e i h1 h2 L).length_eq
abbrev kI:List Int→List Key:=fun L=>L.map Sum.inl
theorem kI_inj {a b:List Int} (h:kI a=kI b):a=b:=by
 have:Function.Injective (Sum.inl:Int→Key):=fun x y h=>by cases h;rfl
 exact List.map_inj_right (fun x y h=>this h) |>.mp h
def addL (ks:List (List Int)) (L:List Int):List (List Int):=if L∈ks then ks else ks++[L]
theorem j5w {ks:List (List Int)}{L M:List Int}:M∈addL ks L↔M∈ks∨M=L:=by
 unfold addL
 split
 ·rename_i h
  exact⟨.inl,fun z=>z.elim id fun z=>z ▸ h⟩
 ·rw[List.mem_append,List.mem_singleton]
theorem j4z {ks:List (List Int)}{L:List Int} (h:ks.Nodup):(addL ks L).Nodup:=by
 unfold addL
 split
 ·exact h
 ·rename_i z
  exact List.nodup_append.mpr ⟨h,List.nodup_cons.mpr ⟨by simp,List.nodup_nil⟩,fun a ha b hb e=>z (by rw[← List.mem_singleton.mp hb,← e];exact ha)⟩
theorem j5x {ks:List (List Int)}{L:List Int}:(addL ks L).length≤ks.length+1:=by
 unfold addL
 split
 ·omega
 ·simp
def RowV (P:V→Prop) (kvs:List (List Key × V)) (ks:List (List Int)):Prop:=kvs.map (·.1)=ks.map kI∧∀ kv∈kvs,P kv.2
theorem RowV.length {P:V→Prop}{kvs:List (List Key × V)}{ks:List (List Int)} (h:RowV P kvs ks):kvs.length=ks.length:=by have:=congrArg List.length h.1;simpa using this
theorem RowV.imp {P R:V→Prop} (k:∀ v,P v→R v) {kvs:List (List Key × V)}{ks:List (List Int)} (h:RowV P kvs ks):RowV R kvs ks:=⟨h.1,fun kv hk=>k _ (h.2 kv hk)⟩
theorem RowV.at {P:V→Prop}{kvs:List (List Key × V)}{ks:List (List Int)} (h:RowV P kvs ks) {i:Nat}{kv:List Key × V} (e:kvs[i]?=some kv):∃ L,ks[i]?=some L∧kv.1=kI L∧P kv.2:=by
 have e1:(kvs.map (·.1))[i]?=some kv.1:=by rw[List.getElem?_map,e];rfl
 rw[h.1,List.getElem?_map] at e1
 cases q:ks[i]? with
 | none=>rw[q] at e1;cases e1
 | some L =>
  rw[q] at e1
  exact⟨L,rfl,(Option.some.inj e1).symm,h.2 kv (List.mem_of_getElem? e)⟩
theorem RowV.val {P:V→Prop}:∀ {kvs:List (List Key × V)}{ks:List (List Int)},RowV P kvs ks→∀ L,(valV kvs (kI L)=none∧L∉ks)∨∃ v,valV kvs (kI L)=some v∧P v∧L∈ks
 | [],[],_,L=>.inl ⟨rfl,by simp⟩
 | [],_ :: _,h,L=>by have:=h.1;simp at this
 | _ :: _,[],h,L=>by have:=h.1;simp at this
 | kv :: kvs,M :: ks,h,L=>by
  have h1:=h.1
  rw[List.map_cons,List.map_cons] at h1
  injection h1 with e1 e2
  have ih:=RowV.val (kvs:=kvs) (ks:=ks) ⟨e2,fun x hx=>h.2 x (List.mem_cons_of_mem _ hx)⟩ L
  by_cases q:M=L
  ·subst q
   exact .inr ⟨kv.2,j1b e1,h.2 kv List.mem_cons_self,List.mem_cons_self⟩
  ·rw[j3w (p:=kv) (fun z=>q (kI_inj (e1.symm.trans z)))]
   rcases ih with⟨a,b⟩ | ⟨v,a,b,c⟩
   ·exact .inl ⟨a,fun z=>(List.mem_cons.mp z).elim (fun z=>q z.symm) b⟩
   ·exact .inr ⟨v,a,b,List.mem_cons_of_mem _ c⟩
theorem RowV.put {P:V→Prop}{kvs:List (List Key × V)}{ks:List (List Int)} (h:RowV P kvs ks) {L:List Int}{v:V} (hv:P v):RowV P (putK kvs (kI L) v) (addL ks L):=by
 have va:=j5j (kI L) kvs
 unfold putK addL
 rw[va]
 rcases h.val L with⟨a,b⟩ | ⟨u,a,_,c⟩
 ·rw[a,if_neg (by simp),if_neg b]
  exact⟨by rw[List.map_append,List.map_append,h.1];rfl,fun kv hk=>(List.mem_append.mp hk).elim (h.2 kv) fun z=>by rw[List.mem_singleton.mp z];exact hv⟩
 ·rw[a,if_pos (by simp),if_pos c]
  refine⟨?_,fun kv hk=>?_⟩
  ·rw[← h.1,List.map_map]
   refine List.map_congr_left fun kv _=>?_
   show (if kv.1=kI L then (kv.1,v) else kv).1=kv.1
   split <;> rfl
  ·obtain⟨kw,hw,rfl⟩:=List.mem_map.mp hk
   show P (if kw.1=kI L then (kw.1,v) else kw).2
   split
   ·exact hv
   ·exact h.2 kw hw
def TK (H H':Hp):Prop:=∀ b xs,H b=some (.tup xs)→H' b=some (.tup xs)
theorem TK.tr {H H1 H2:Hp} (a:TK H H1) (b:TK H1 H2):TK H H2:=fun c xs h=>b c xs (a c xs h)
theorem j50 {H H':Hp} (e:Ext H H'):TK H H':=fun b xs h=>e b _ h
theorem j1q {H H':Hp}{x:Addr}{kvs:List (List Key × V)} (hx:H x=some (.dT kvs)) (b:But x H H'):TK H H':=fun c xs h=>b c _ (fun z=>by rw[z,hx] at h;cases h) h
theorem j2j {H H':Hp}{x:Addr}{ys:List V} (hx:H x=some (.lst ys)) (b:But x H H'):TK H H':=fun c xs h=>b c _ (fun z=>by rw[z,hx] at h;cases h) h
abbrev pv0 (H:Hp) (v:V):Prop:=∃ q p bv,v=.ref q∧H q=some (.tup [.int p,bv])
theorem j38 {H H':Hp} (e:TK H H') (v:V) (h:pv0 H v):pv0 H' v:=let ⟨q,p,bv,h1,h2⟩:=h;⟨q,p,bv,h1,e _ _ h2⟩
theorem jj6 {ks ls:List Key} (h:ks.map kV=ls.map kV):ks=ls:=by
 have:∀ x y:Key,kV x=kV y→x=y:=fun x y h=>by
  cases x <;> cases y <;> first | (cases h;rfl) | cases h
 exact List.map_inj_right (fun x y h=>this x y h) |>.mp h
theorem ja2 {H:Hp}{p:Addr}{ks ls:List Key} (h1:H p=some (.tup (ks.map kV))) (h2:H p=some (.tup (ls.map kV))):ks=ls:=by
 rw[h1] at h2
 injection h2 with h2
 injection h2 with h2
 exact jj6 h2
inductive RowsV (H:Hp):List V→List (List (List Int))→Prop
 | nil:RowsV H [] []
 | cons {d:Addr}{o:Obj}{kvs:List (List Key × V)}{A:List (List Int)}{ys:List V}{Rs:List (List (List Int))}:H d=some (.frz o (.dT kvs))→RowV (pv0 H) kvs A→RowsV H ys Rs→RowsV H (.ref d :: ys) (A :: Rs)
theorem RowsV.mono {H H':Hp} (k:∀ b o u,H b=some (.frz o u)→H' b=some (.frz o u)) (e:TK H H') {ys:List V}{Rs:List (List (List Int))} (h:RowsV H ys Rs):RowsV H' ys Rs:=by
 induction h with
 | nil=>exact .nil
 | cons a b _ ih=>exact .cons (k _ _ _ a) (b.imp (j38 e)) ih
theorem RowsV.ext {H H':Hp} (e:Ext H H') {ys:List V}{Rs:List (List (List Int))} (h:RowsV H ys Rs):RowsV H' ys Rs:=h.mono (fun b o u z=>e _ _ z) (j50 e)
theorem RowsV.butL {H H':Hp}{x:Addr}{zs:List V} (hx:H x=some (.lst zs)) (b:But x H H') {ys:List V}{Rs:List (List (List Int))} (h:RowsV H ys Rs):RowsV H' ys Rs:=RowsV.mono (H:=H) (H':=H') (fun c o u z=>b c _ (fun q=>by rw[q,hx] at z;cases z) z) (j2j hx b) h
theorem RowsV.length {H:Hp}{ys:List V}{Rs:List (List (List Int))} (h:RowsV H ys Rs):ys.length=Rs.length:=by
 induction h with
 | nil=>rfl
 | cons _ _ _ ih=>simp[ih]
theorem RowsV.at {H:Hp}{ys:List V}{Rs:List (List (List Int))} (h:RowsV H ys Rs):∀ (i:Nat) (v:V),ys[i]?=some v→∃ d o kvs,v=.ref d∧H d=some (.frz o (.dT kvs))∧RowV (pv0 H) kvs (Rs.getD i []):=by
 induction h with
 | nil=>exact fun i v h=>by simp at h
 | @cons d o kvs r ys rs a b _ ih =>
  intro i v h
  cases i with
  | zero=>simp at h;subst h;exact⟨d,o,kvs,rfl,a,b⟩
  | succ i=>simpa using ih i v (by simpa using h)
theorem RowsV.snoc {H:Hp}{d:Addr}{o:Obj}{kvs:List (List Key × V)}{A:List (List Int)} (hd:H d=some (.frz o (.dT kvs))) (hr:RowV (pv0 H) kvs A) {ys:List V}{Rs:List (List (List Int))} (h:RowsV H ys Rs):RowsV H (ys++[.ref d]) (Rs++[A]):=by
 induction h with
 | nil=>exact .cons hd hr .nil
 | cons a b _ ih=>exact .cons a b ih
theorem G65.okm {g:G65}{n m:Nat}{L:List Int} (h:g.ok n L) (l:n≤m):g.ok m L:=by
 cases g with
 | line=>exact h
 | bags R=>exact⟨h.1,Nat.le_trans h.2 l⟩
theorem j5y {Ms:List (List Int)}{j:Nat} (hj:j < Ms.length) (N:List Int):N∈Ms.take (j+1)↔N∈Ms.take j∨N=Ms.getD j []:=by
 rw[List.take_add_one,List.getElem?_eq_getElem hj,List.mem_append,List.getD_eq_getElem?_getD,List.getElem?_eq_getElem hj]
 simp
def LensV (H:Hp) (zs:List V) (ns:List Nat):Prop:=zs.length=ns.length∧∀ i v,zs[i]?=some v→∃ p ys,v=.ref p∧H p=some (.lst ys)∧ys.length=ns.getD i 0
def Fit (g:G65) (st ws:List Int) (Rs:List (List (List Int))):Prop:=Chn g [st] ws Rs∧∀ i,i≤ws.length→(Rs.getD i []).length≤60
def Big (g:G65) (st ws:List Int) (j:Nat) (Rs:List (List (List Int))):Prop:=j≤ws.length∧Chn g [st] (ws.take j) Rs∧60 < (Rs.getD j []).length
theorem jfb {ws:List Int}{i j:Nat} (h:i < (ws.take j).length):(ws.take j).getD i 0=ws.getD i 0:=by
 rw[List.length_take] at h
 rw[List.getD_eq_getElem?_getD,List.getD_eq_getElem?_getD,List.getElem?_take_of_lt (by omega)]
theorem Fit.big {g:G65}{st ws:List Int}{j:Nat}{Rs Ts:List (List (List Int))} (h:Fit g st ws Rs) (k:Big g st ws j Ts):False:=by
 obtain⟨k1,k2,k3⟩:=k
 have l:(ws.take j).length=j:=by rw[List.length_take];omega
 have:=h.1.len (by simp) k2 (fun i _ hi=>(jfb hi).symm) j k1 (by omega)
 have:=h.2 j k1
 omega
theorem Fit.len {g:G65}{st ws:List Int}{Rs Ts:List (List (List Int))} (h:Fit g st ws Rs) (k:Fit g st ws Ts):Rs.map List.length=Ts.map List.length:=by
 have l1:=h.1.ln
 have l2:=k.1.ln
 refine List.ext_getElem (by simp[l1,l2]) fun i h1 h2=>?_
 rw[List.length_map] at h1 h2
 have:=h.1.len (by simp) k.1 (fun _ _ _=>rfl) i (by omega) (by omega)
 rw[List.getElem_map,List.getElem_map]
 rwa [List.getD_eq_getElem?_getD,List.getD_eq_getElem?_getD,List.getElem?_eq_getElem h1,List.getElem?_eq_getElem h2] at this
def G65.at_ (a:Adr) (H:Hp):G65→Addr→Prop
 | .line,r=>∃ dw m,H r=some (.ins a.c_Line dw [("many",m)])
 | .bags R,r=>∃ dw,H r=some (.ins a.c_Bags dw [("room",.int R)])
theorem G65.mono {a:Adr}{H H':Hp} (e:Ext H H') {g:G65}{r:Addr} (h:g.at_ a H r):g.at_ a H' r:=by
 cases g with
 | line=>obtain⟨dw,m,h⟩:=h;exact⟨dw,m,e _ _ h⟩
 | bags R=>obtain⟨dw,h⟩:=h;exact⟨dw,e _ _ h⟩
theorem go_ne {g:G65}{n:Nat}{w:Int}{ns L:List Int} (h:g.ok n ns) (hg:g.go w ns L):L≠[]:=by
 cases g with
 | line =>
  obtain⟨h1,h2⟩:=h
  rcases hg with⟨_,rfl⟩ | ⟨_,k,hk,hs⟩
  ·intro z;rw[z] at h1;simp at h1
  ·have:=hs.len hk
   intro z;rw[z] at this;simp at this;omega
 | bags R =>
  obtain⟨pr,g1,⟨_,pm⟩ | ⟨_,k,hk,hR,pm⟩⟩:=hg
  ·have:=pm.length_eq
   intro z;rw[z] at this;simp at this
  ·have:=pm.length_eq
   intro z;rw[z] at this;simp at this;omega
def pr65 (g:G65) (ns L:List Int):List Int × Int:=(L,g.pr ns L)
theorem jcz {g:G65}{ns:List Int}{Ms:List (List Int)}{j:Nat} (hj:j < Ms.length):(Ms.map (pr65 g ns)).getD j ([],0)=(Ms.getD j [],g.pr ns (Ms.getD j [])):=by
 rw[List.getD_eq_getElem?_getD,List.getElem?_map,List.getElem?_eq_getElem hj,List.getD_eq_getElem?_getD,List.getElem?_eq_getElem hj]
 rfl
def Grt (a:Adr) (H:Hp) (E:XK):Prop:=∀ e H',Ext H H'→H' e=some (.xd [("row",.non)])→E (.ref a.c_TooGreat) (some e) H'
theorem Grt.ext {a:Adr}{H H':Hp}{E:XK} (x:Ext H H') (h:Grt a H E):Grt a H' E:=fun e H2 x2 q=>h e H2 (x.tr x2) q
theorem j21 {α:Type}{xs:List α}{v:α} (h:0 < xs.length) (e:xs[xs.length-1]?=some v):atI xs (-1)=some v:=by
 have:ixN xs.length (-1)=some (xs.length-1):=by
  unfold ixN
  rw[if_neg (by decide),if_pos (by omega)]
  congr 1
  omega
 unfold atI
 rw[this]
 exact e
theorem jii (xs:List V) (h:1≤xs.length):cutV xs (some 1) none=xs.drop 1:=by
 unfold cutV HT.sIx
 dsimp only
 rw[if_neg (by decide),show min (1:Int).toNat xs.length=1 by show min 1 xs.length=1;omega]
 exact List.take_of_length_le (by rw[List.length_drop];exact Nat.le_refl _)
theorem RefsH.tk {H H':Hp} (e:TK H H') {vs:List V}{Ls:List (List Int)} (r:RefsH H vs Ls):RefsH H' vs Ls:=by
 induction r with
 | nil=>exact .nil
 | cons x _ ih=>exact .cons (e _ _ x) ih
theorem cat3 (A B:List Int) (z:Int):A.map V.int++B.map V.int++[V.int z]=(A++B++[z]).map V.int:=by simp
theorem perm3 (A B:List Int) (z:Int):(A++B++[z]).Perm (A++[z]++B):=by
 rw[List.append_assoc,List.append_assoc]
 exact List.Perm.append_left A List.perm_append_comm
theorem Sent.same {ns L M:List Int}{k:Nat}{z:Int} (h:Sent ns k z L) (g:Sent ns k z M):L=M:=j0y (h.1.trans g.1.symm) h.2 g.2
def G65.rm:G65→Int→Prop
 | .line,R=>R=0
 | .bags S,R=>R=S∧1≤S
def ShAt (a:Adr) (H:Hp) (r:Addr):Prop:=∃ dw m,H r=some (.ins a.c_Shelf dw [("things",m)])
theorem PairsH.get {H:Hp}{vs:List V}{Ks:List (List Int × Int)} (r:PairsH H vs Ks):∀ (i:Nat) (v:V),vs[i]?=some v→∃ c a,v=.ref c∧H c=some (.tup [.ref a,.int (Ks.getD i ([],0)).2])∧H a=some (.tup ((Ks.getD i ([],0)).1.map V.int)):=by
 induction r with
 | nil=>exact fun i v h=>by simp at h
 | cons x y _ ih =>
  intro i v h
  cases i with
  | zero=>simp at h;subst h;exact⟨_,_,rfl,by simpa using x,by simpa using y⟩
  | succ i=>simpa using ih i v (by simpa using h)
theorem j1a (T:Txt K mg a):FnOk P w K mg base (CXU P w) 1 a.f_z1 a.d_z1 ["self","row"] (spErr K):=by
 refine T.F_z1.okU sc_z1 (fun vs H Q E h=>?_) (fun cdv A outer s H vs Q E hr h=>?_)
 ·obtain⟨x,C,bm,v,rfl,hx,hs,hq⟩:=h
  rfl
 ·obtain⟨x,C,bm,v,rfl,hx,hs,hq⟩:=h
  have zc_Bags:=T.cl_Bags
  have zn_Bags_room:=T.na_Bags_room
  have zc_Line:=T.cl_Line
  have zn_Line_many:=T.na_Line_many
  have zc_Shelf:=T.cl_Shelf
  have zn_Shelf_things:=T.na_Shelf_things
  refine⟨_,(j06 (ps_err (pv 0) (pv 1) rfl)),?_⟩
  exact⟨v,rfl,.ref x,rfl,x,C,bm,rfl,hx,hs,fun dx h1 h2=>hq dx h1 h2⟩
def j46 (a:Adr):Sp:=fun us H _ E=>∃ (r b:Addr) (ss:List Str) (w:Str),us=[.ref r,.ref b,.str w]∧H b=some (.tup (ss.map V.str))∧4 < ss.length∧Grt a H E
theorem j47 (T:Txt K mg a):FnOk P w K mg base (CXU P w) 3 a.f_z6 a.d_z6 ["self","before","wish"] (j46 a):=by
 refine T.F_z6.okX sc_z6 (fun vs H Q E h=>?_) (fun cdv A outer s H vs Q E hr h=>?_)
 ·obtain⟨r,b,ss,w,rfl,hb,l4,hn⟩:=h
  rfl
 ·obtain⟨r,b,ss,w,rfl,hb,l4,hn⟩:=h
  have zc_Bags:=T.cl_Bags
  have zn_Bags_room:=T.na_Bags_room
  have zc_Line:=T.cl_Line
  have zn_Line_many:=T.na_Line_many
  have zc_Shelf:=T.cl_Shelf
  have zn_Shelf_things:=T.na_Shelf_things
  refine⟨_,(j03 (j2l (j0f jfh (j07 j6s (by rfl) T.n_len PySem.boot_len (j00 (pv 1) j02)) j09 (j0o _)) (j06 (j6q ja8 rfl (jcb (T.ek_TooGreat.em (.inr ⟨_,rfl⟩)) (j1a T) (hr.mono (by decide)) (by rfl) T.m_TooGreat T.b1_LateError_init T.w_LateError_init j0s))) j0h)
   (j06 jd4)),?_⟩
  walk_at "v"
  refine j1f hb ?_
  rw[List.length_map]
  walk_at "v"
  refine iteD (fun _=>?_) (fun c=>absurd l4 (by omega))
  walk_at "v"
  exact j8x T.ek_TooGreat (.inr ⟨_,rfl⟩) fun d H' _ q1 e2=>hn d H' e2 q1
def j39:Sp:=fun vs H Q _=>∃ (p q:Addr) (ns ms:List Int),vs=[.ref p,.ref q]∧H p=some (.tup (ns.map V.int))∧H q=some (.tup (ms.map V.int))∧ns.length=ms.length∧ns.length≤1000∧∀ H',Ext H H'→Q (.int (ways ns ms)) H'
theorem j3a (T:Txt K mg a):FnOk P w K mg base (CXU P w) 1 a.f_z5 a.d_z5 ["before","after"] (j39):=by
 refine T.F_z5.okU sc_z5 (fun vs H Q E h=>?_) (fun cdv A outer s H vs Q E hr h=>?_)
 ·obtain⟨p,q,ns,ms,rfl,hp,hq',hl,hz,hq⟩:=h
  rfl
 ·obtain⟨p,q,ns,ms,rfl,hp,hq',hl,hz,hq⟩:=h
  refine⟨_,(j06 (j0d (j07 (cSum rfl) (by rfl) T.n_sum PyProof.Rows.boot_sum (j00 (j2g (["here","there"]:List Str) ([]:List Str) [] rfl ⟨rfl,by decide +kernel,by decide +kernel,by rfl,trivial⟩ (jce rfl T.n_zip (j00 (pv 0) (j00 (pv 1) j02))) (fun _ _ _ _=>⟨(jd5 rfl (j27 (j0e (i:=0) (by show ((["here","there"]:List Str)++([]:List Str)).Nodup;decide +kernel) rfl (by first | exact Or.inl rfl | exact Or.inr rfl)) (j27 (j0e (i:=1) (by show ((["here","there"]:List Str)++([]:List Str)).Nodup;decide +kernel) rfl (by first | exact Or.inl rfl | exact Or.inr rfl)) j7z))),(show PTs _ [] [] from trivial),(j07 cAbs (by rfl) T.n_abs PyProof.Rows.boot_abs (j00 (j0l op_sub (pv 0) (pv 1)) j02))⟩)) j02)))),?_⟩
  walk_at "v"
  refine⟨p,q,ns.map V.int,ms.map V.int,true,true,rfl,SqT.of hp,SqT.of hq',fun acc hn _ _ _ _=>jb0 (c:=true) (d:=true) (SqT.of hp) (SqT.of hq') (by simpa using hl) (by rw[List.length_map];omega) hn
   (fun i ys _=>ys=((List.zipWith (fun a b:Int=>((a-b).natAbs:Int)) ns ms).take i).map V.int) (by simp) (fun _ _ _ _ _ h=>h) (fun i ys H' _ h=>by rw[h,List.length_map,List.length_take];omega) ?_ ?_⟩
  ·rintro i x z ys H2 H3 hx hz' e e3 rfl Y N hY hN
   obtain⟨x,ex,rfl⟩:=j3m hx
   obtain⟨z,ez,rfl⟩:=j3m hz'
   walk_at "v"
   refine hY _ _ e3 ?_
   rw[List.take_add_one,List.map_append,List.getElem?_zipWith,ex,ez]
   rfl
  ·rintro ys H2 e ha rfl
   rw[List.take_of_length_le (by rw[List.length_zipWith,List.length_map];omega)] at ha
   walk_at "v"
   exact r_sum ha (hq H2 e)
def j51:Sp:=fun vs H Q _=>∃ (r p q:Addr) (ns ms:List Int) (w:Int),vs=[.ref r,.ref p,.int w,.ref q]∧H p=some (.tup (ns.map V.int))∧H q=some (.tup (ms.map V.int))∧ns.length=ms.length∧ns.length≤1000∧∀ H',Ext H H'→Q (if w∈ms then .int (ways ns ms) else .non) H'
theorem j52 (T:Txt K mg a):FnOk P w K mg base (CXU P w) 2 a.f_z12 a.d_z12 ["self","before","wish","after"] (j51):=by
 refine T.F_z12.okU sc_z12 (fun vs H Q E h=>?_) (fun cdv A outer s H vs Q E hr h=>?_)
 ·obtain⟨r,p,q,ns,ms,w,rfl,hp,hq',hl,hz,hq⟩:=h
  rfl
 ·obtain⟨r,p,q,ns,ms,w,rfl,hp,hq',hl,hz,hq⟩:=h
  refine⟨_,(j03 (j2l (j0f jgi (pv 2) (pv 3) (by with_unfolding_all rfl)) (j06 (j0d j3r)) j0h)
   (j06 (j0d (j0c (j3a T) (hr.mono (by decide)) (by rfl) T.m_z5 T.F_z5.kp T.b_z5 .nil j0s (j00 (pv 1) (j00 (pv 3) j02)))))),?_⟩
  walk_at "v"
  refine jdz hq' rfl (j3y _) ?_
  rw[j5o]
  walk_at "v"
  refine iteN (fun h=>?_) (fun h=>?_)
  ·rw[if_neg h] at hq
   walk_at "v"
   exact hq H Ext.rfl'
  ·rw[if_pos h] at hq
   walk_at "v"
   exact⟨p,q,ns,ms,rfl,hp,hq',hl,hz,hq⟩
def jby:Sp:=fun vs H Q _=>∃ (p:Addr) (os:List Int) (s:Int) (kk:Nat),vs=[.ref p,.int (kk:Nat),.int s]∧H p=some (.tup (os.map V.int))∧kk < os.length∧os.length≤60∧∀ q (fs:List Int) H',fs.Perm (os.set kk (os.getD kk 0+s))→fs.Pairwise (·≤·)→H' q=some (.tup (fs.map V.int))→Ext H H'→Q (.ref q) H'
theorem j78 (T:Txt K mg a):FnOk P w K mg base (CXU P w) 1 a.f_z24 a.d_z24 ["loads","at","size"] (jby):=by
 refine T.F_z24.okU sc_z24 (fun vs H Q E h=>?_) (fun cdv A outer s H vs Q E hr h=>?_)
 ·obtain⟨p,os,s,kk,rfl,hp,hkk,hl,hq⟩:=h
  rfl
 ·obtain⟨p,os,s,kk,rfl,hp,hkk,hl,hq⟩:=h
  refine⟨_,(j06 (j0d (j0j j4l (by rfl) T.n_tuple PyProof.Rows.boot_tuple (j00 (j07 j7m (by rfl) T.n_sorted PyProof.Rows.boot_sorted (j00 (j0l j1n (j0l j1n (j16 oSl (pv 0) j1w (j1x (pv 1))) (j1v (j00 (j0l j1n (j2o oIx (pv 0) (pv 1) (fun _ _=>rfl)) (pv 2)) j02))) (j16 oSl (pv 0) (j1x (j0l j1n (pv 1) j09)) j1w)) j02)) j02)))),?_⟩
  have s1:cutV (os.map V.int) none (some ((kk:Nat):Int))=(os.take kk).map V.int:=by
   unfold cutV
   rw[HT.sIx_nat,HT.sIx_none,List.length_map,List.drop_zero,Nat.sub_zero,Nat.min_eq_left (Nat.le_of_lt hkk),List.map_take]
  have s2:cutV (os.map V.int) (some (((kk:Nat):Int)+1)) none=(os.drop (kk+1)).map V.int:=by
   unfold cutV
   rw[show (((kk:Nat):Int)+1)=((kk+1:Nat):Int) by omega,HT.sIx_nat,HT.sIx_none,List.length_map,Nat.min_eq_left (show kk+1≤os.length by omega),← List.map_drop,List.take_of_length_le (by rw[List.length_map,List.length_drop];exact Nat.le_refl _)]
  have i1:=j2v (ns:=os) (k:=(kk:Nat)) (by omega) (by omega)
  rw[Int.toNat_natCast] at i1
  walk_at "v"
  refine jle hp (by rintro⟨_,z⟩;rw[HT.sIx_nat,List.length_map] at z;omega) fun l1 H1 n1 q1 e1=>?_
  rw[s1] at q1
  have hp1:=e1 _ _ hp
  walk_at "v"
  refine j5c hp1 i1 ?_
  walk_at "v"
  intro p2 H2 n2 q2 e2
  walk_at "v"
  refine j1o (e2 _ _ q1) q2 (by simp;omega) fun p3 H3 q3 e3=>?_
  have hp3:=e3 _ _ (e2 _ _ hp1)
  walk_at "v"
  refine jle hp3 (by rintro⟨z,_⟩;rw[show (((kk:Nat):Int)+1)=((kk+1:Nat):Int) by omega,HT.sIx_nat,List.length_map] at z;omega) fun l4 H4 n4 q4 e4=>?_
  rw[s2] at q4
  walk_at "v"
  refine j1o (e4 _ _ q3) q4 (by simp;omega) fun p5 H5 q5 e5=>?_
  rw[show (os.take kk).map V.int++[V.int (os.getD kk 0+s)]++(os.drop (kk+1)).map V.int=(os.set kk (os.getD kk 0+s)).map V.int by rw[← jf9 hkk];simp] at q5
  walk_at "v"
  refine j7t q5 (by simp;omega) fun l6 ns' H6 n6 hp6 hs6 q6 e6=>?_
  walk_at "v"
  refine j1c q6 fun l7 H7 n7 q7 e7=>?_
  exact hq l7 ns' H7 hp6 hs6 q7 ((((((e1.tr e2).tr e3).tr e4).tr e5).tr e6).tr e7)
def jbz:Sp:=fun vs H Q _=>∃ (p:Addr) (os:List Int) (s:Int),vs=[.ref p,.int s]∧H p=some (.tup (os.map V.int))∧os.length≤60∧∀ q (fs:List Int) H',fs.Perm (os++[s])→fs.Pairwise (·≤·)→H' q=some (.tup (fs.map V.int))→Ext H H'→Q (.ref q) H'
theorem j79 (T:Txt K mg a):FnOk P w K mg base (CXU P w) 1 a.f_z25 a.d_z25 ["loads","size"] (jbz):=by
 refine T.F_z25.okU sc_z25 (fun vs H Q E h=>?_) (fun cdv A outer s H vs Q E hr h=>?_)
 ·obtain⟨p,os,s,rfl,hp,hl,hq⟩:=h
  rfl
 ·obtain⟨p,os,s,rfl,hp,hl,hq⟩:=h
  refine⟨_,(j06 (j0d (j0j j4l (by rfl) T.n_tuple PyProof.Rows.boot_tuple (j00 (j07 j7m (by rfl) T.n_sorted PyProof.Rows.boot_sorted (j00 (j0l j1n (pv 0) (j1v (j00 (pv 1) j02))) j02)) j02)))),?_⟩
  walk_at "v"
  intro p1 H1 n1 q1 e1
  walk_at "v"
  refine j1o (e1 _ _ hp) q1 (by simp;omega) fun p2 H2 q2 e2=>?_
  rw[show os.map V.int++[V.int s]=(os++[s]).map V.int by simp] at q2
  walk_at "v"
  refine j7t q2 (by simp;omega) fun l3 ns' H3 n3 hp3 hs3 q3 e3=>?_
  walk_at "v"
  refine j1c q3 fun l4 H4 n4 q4 e4=>?_
  exact hq l4 ns' H4 hp3 hs3 q4 (((e1.tr e2).tr e3).tr e4)
theorem jc0 {n j:Nat}{p:Nat→Bool}{r:List Nat} (h:(List.range n).filter p=j :: r):j < n∧p j=true∧∀ i,i < j→p i=false:=by
 have hm:j∈(List.range n).filter p:=by rw[h];exact List.mem_cons_self
 obtain⟨m1,m2⟩:=List.mem_filter.mp hm
 refine⟨List.mem_range.mp m1,m2,fun i hi=>?_⟩
 cases e:p i with
 | false=>rfl
 | true =>
  exfalso
  have hi':i∈(List.range n).filter p:=List.mem_filter.mpr ⟨List.mem_range.mpr (by have:=List.mem_range.mp m1;omega),e⟩
  have sl:((List.range n).filter p).Pairwise (· < ·):=List.Pairwise.filter _ List.pairwise_lt_range
  rw[h] at hi' sl
  rcases List.mem_cons.mp hi' with z | z
  ·omega
  ·have:=(List.pairwise_cons.mp sl).1 i z
   omega
def j53 (a:Adr):Sp:=fun vs H Q _=>∃ (w dw b f:Addr) (os fs:List Int) (R s pr:Int),vs=[.ref w,.ref b,.int s,.ref f]∧H w=some (.ins a.c_Bags dw [("room",.int R)])∧H b=some (.tup (os.map V.int))∧H f=some (.tup (fs.map V.int))∧Lds R os∧1≤s∧os.length≤60∧Goes R os s fs pr∧∀ H',Ext H H'→Q (.int pr) H'
theorem j54 (T:Txt K mg a):FnOk P w K mg base (CXU P w) 2 a.f_z10 a.d_z10 ["self","before","wish","after"] (j53 a):=by
 refine T.F_z10.okU jic (fun vs H Q E h=>?_) (fun cdv A outer s H vs Q E hr h=>?_)
 ·obtain⟨w,dw,b,f,os,fs,R,s,pr,rfl,hw,hb,hf,hos,s1,hl,hg,hq⟩:=h
  rfl
 ·obtain⟨w,dw,b,f,os,fs,R,s,pr,rfl,hw,hb,hf,hos,s1,hl,hg,hq⟩:=h
  have zc_Bags:=T.cl_Bags
  have zn_Bags_room:=T.na_Bags_room
  have zc_Line:=T.cl_Line
  have zn_Line_many:=T.na_Line_many
  have zc_Shelf:=T.cl_Shelf
  have zn_Shelf_things:=T.na_Shelf_things
  refine⟨_,(j03 (j2l (j0f jjy (j07 j6s (by rfl) T.n_len PySem.boot_len (j00 (pv 3) j02)) (j07 j6s (by rfl) T.n_len PySem.boot_len (j00 (pv 1) j02)) (j0o _)) (j06 (j0d (j7y (PW.pt (jfq (j0f jjz (j07 j6s (by rfl) T.n_len PySem.boot_len (j00 (pv 1) j02)) (j3d (v:=V.int 500) (by rfl) T.m_MOST_BAGS ⟨_,rfl⟩) (j0o _)) (jc3 (j0f (oEq hr) (pv 3) (j0c (j79 T) (hr.mono (by decide)) (by rfl) T.m_z25 T.F_z25.kp T.b_z25 .nil j0s (j00 (pv 1) (j00 (pv 2) j02))) (j0o _))))) j09 j3r))) j0h)
   (j03 (j0t (i:=4) (["at"]:List Str) (["before","after"]:List Str) [1,3] jic.nd rfl (Or.inl rfl) rfl ⟨rfl,by decide +kernel,by decide +kernel,by rfl,⟨⟨rfl,by first | exact Or.inl rfl | exact Or.inr rfl,by first | exact Or.inl rfl | exact Or.inr rfl⟩,⟨rfl,by first | exact Or.inl rfl | exact Or.inr rfl,by first | exact Or.inl rfl | exact Or.inr rfl⟩,trivial⟩⟩ (j0w rfl T.n_range (j00 (j07 j6s (by rfl) T.n_len PySem.boot_len (j00 (pv 1) j02)) j02)) (fun _ _ _ _=>⟨(j0e (i:=0) (by show ((["at"]:List Str)++(["before","after"]:List Str)).Nodup;decide +kernel) rfl (by first | exact Or.inl rfl | exact Or.inr rfl)),(show PTs _ [_] [_] from⟨(j0f jjy (j2o oIx (pv 1) (pv 0) (fun _ _=>rfl)) (j2o oIx (pv 2) (pv 0) (fun _ _=>rfl)) (j0o _)),trivial⟩),(pv 0)⟩))
   (j03 (j2l (PW.pt (pw_or (jd3 (ptT (pv 4) (fun _=>rfl))) (jfp (j0f jfh (j0l j1n (j2o oIx (pv 1) (j2o oIx (pv 4) j09 (fun _ _=>rfl)) (fun _ _=>rfl)) (pv 2)) (jfv (pv 0) rfl) (j0o _))))) (j06 (j0d j3r)) j0h)
   (j06 (j0d (j7y (j0f (oEq hr) (pv 3) (j0c (j78 T) (hr.mono (by decide)) (by rfl) T.m_z24 T.F_z24.kp T.b_z24 .nil j0s (j00 (pv 1) (j00 (j2o oIx (pv 4) j09 (fun _ _=>rfl)) (j00 (pv 2) j02)))) (j0o _)) j09 j3r)))))),?_⟩
  obtain⟨fsrt,hg⟩:=hg
  walk_at "v"
  refine j1f hf ?_
  rw[List.length_map]
  walk_at "v"
  refine j1f hb ?_
  rw[List.length_map]
  walk_at "v"
  rcases hg with⟨rfl,hpm⟩ | ⟨rfl,k,hk,hR,hpm⟩
  ·have fl:=hpm.length_eq
   rw[List.length_append,List.length_singleton] at fl
   refine iteN (fun _=>?_) (fun z=>by omega)
   walk_at "v"
   refine j1f hb ?_
   rw[List.length_map]
   walk_at "v"
   refine iteD (fun _=>?_) (fun z=>by omega)
   walk_at "v"
   refine⟨b,os,s,rfl,hb,hl,fun q gs H1 hp1 hs1 q1 e1=>?_⟩
   walk_at "v"
   refine jh2 (e1 _ _ hf) q1 ?_
   rw[decide_eq_true (j0y (hpm.trans hp1.symm) fsrt hs1)]
   walk_at "v"
   exact hq H1 e1
  ·have fl:=hpm.length_eq
   rw[List.length_set] at fl
   refine iteN (fun z=>by omega) (fun _=>?_)
   walk_at "v"
   refine j1f hb ?_
   rw[List.length_map]
   walk_at "v"
   refine⟨_,rfl,by omega,by omega,fun acc hn _ _ _ _=>j1e (by omega) hn (fun j ys _=>ys=((List.range j).filter fun i=>!decide (os.getD i 0=fs.getD i 0)).map fun (i:Nat)=>V.int (i:Nat)) rfl (fun _ _ _ _ _ h=>h) (fun j ys H' _ h=>by rw[h,List.length_map];exact Nat.le_trans (List.length_filter_le _ _) (by simp)) ?_ ?_⟩
   ·rintro j ys H2 hj e rfl Y N hY hN
    have hb2:=e _ _ hb
    have hf2:=e _ _ hf
    have i1:=j2v (ns:=os) (k:=0+(j:Nat)) (by omega) (by omega)
    have i2:=j2v (ns:=fs) (k:=0+(j:Nat)) (by omega) (by omega)
    rw[show ((0:Int)+(j:Nat)).toNat=j by omega] at i1 i2
    walk_at "v"
    refine j5c hb2 i1 ?_
    walk_at "v"
    refine j5c hf2 i2 ?_
    walk_at "v"
    refine iteN (fun c=>?_) (fun c=>?_)
    ·walk_at "v"
     refine hY _ _ Ext.rfl' ?_
     rw[List.range_succ,List.filter_append,List.map_append]
     simp only[List.filter_cons,List.filter_nil,decide_eq_false c,Bool.not_false,if_true,List.map_cons,List.map_nil]
     rw[show ((0:Int)+(j:Nat))=(j:Nat) by omega]
    ·walk_at "v"
     refine hN _ Ext.rfl' ?_
     rw[List.range_succ,List.filter_append,List.map_append]
     simp only[List.filter_cons,List.filter_nil,decide_eq_true c,Bool.not_true,Bool.false_eq_true,if_false,List.map_nil,List.append_nil]
   rintro ys H2 e ha rfl
   rw[show ((os.length:Int).toNat)=os.length by omega] at ha
   obtain⟨j0,hj0,hd0⟩:=jbw hk (w:=os.getD k 0+s) (by omega) hpm
   cases hL:(List.range os.length).filter (fun i=>!decide (os.getD i 0=fs.getD i 0)) with
   | nil =>
    have:j0∈(List.range os.length).filter (fun i=>!decide (os.getD i 0=fs.getD i 0)):=List.mem_filter.mpr ⟨List.mem_range.mpr hj0,by rw[decide_eq_false hd0];rfl⟩
    rw[hL] at this
    cases this
   | cons j rest =>
    rw[hL] at ha
    obtain⟨jn,jp,jf⟩:=jc0 hL
    have jne:os.getD j 0≠fs.getD j 0:=by
     intro z
     rw[decide_eq_true z] at jp
     cases jp
    have jeq:∀ i,i < j→os.getD i 0=fs.getD i 0:=fun i hi=>by
     have:=jf i hi
     simpa using this
    have ev:=ja1 hos.1 fsrt hk (by omega) hpm jn jeq jne
    have hb2:=e _ _ hb
    have hf2:=e _ _ hf
    have hw2:=e _ _ hw
    have i1:=j2v (ns:=os) (k:=(j:Nat)) (by omega) (by omega)
    rw[Int.toNat_natCast] at i1
    walk_at "v"
    refine r_lstT (SqL.of ha) ?_
    walk_at "v"
    refine jat ha (v:=.int (j:Nat)) (j3k (by decide) rfl) ?_
    walk_at "v"
    refine j5c hb2 i1 ?_
    walk_at "v"
    refine iteD (fun c=>by omega) (fun c=>?_)
    walk_at "v"
    refine jat ha (v:=.int (j:Nat)) (j3k (by decide) rfl) ?_
    walk_at "v"
    refine⟨b,os,s,j,rfl,hb2,jn,hl,fun q gs H3 hp3 hs3 q3 e3=>?_⟩
    walk_at "v"
    refine jh2 (e3 _ _ hf2) q3 ?_
    rw[ev] at hp3
    rw[decide_eq_true (j0y (hpm.trans ((j9z hk jn ev.symm).trans hp3.symm)) fsrt hs3)]
    walk_at "v"
    exact hq H3 (e.tr e3)
def j3b (a:Adr):Sp:=fun us H Q _=>∃ (g:G65) (r b p:Addr) (ns:List Int) (vs:List V) (Ls:List (List Int)) (w:Int),us=[.ref r,.ref b,.int w,.ref p]∧g.at_ a H r∧H b=some (.tup (ns.map V.int))∧H p=some (.lst vs)∧RefsH H vs Ls∧vs.length≤60∧g.ok 40 ns∧g.okW w∧(∀ L∈Ls,g.go w ns L) ∧
 ∀ l ys (Ms:List (List Int)) H',H l=none→H' l=some (.lst ys)→PairsH H' ys (Ms.map (pr65 g ns))→Ms.Nodup→(∀ L,L∈Ms↔L∈Ls)→Ms.length≤60→Ext H H'→Q (.ref l) H'
theorem j11 (T:Txt K mg a):FnOk P w K mg base (CXU P w) 3 a.f_z3 a.d_z3 ["self","before","wish","states"] (j3b a):=by
 refine T.F_z3.okU sc_z3 (fun vs H Q E h=>?_) (fun cdv A outer s H vs Q E hr h=>?_)
 ·obtain⟨gg,r,b,p,ns,vs,Ls,w,rfl,hr0,hb,hp,hrf,h60,hok,hwk,hL,hq⟩:=h
  rfl
 ·obtain⟨gg,r,b,p,ns,vs,Ls,w,rfl,hr0,hb,hp,hrf,h60,hok,hwk,hL,hq⟩:=h
  have zc_Bags:=T.cl_Bags
  have zn_Bags_room:=T.na_Bags_room
  have zc_Line:=T.cl_Line
  have zn_Line_many:=T.na_Line_many
  have zc_Shelf:=T.cl_Shelf
  have zn_Shelf_things:=T.na_Shelf_things
  refine⟨_,(j03 (j0t (i:=4) (["after"]:List Str) (["self","before","wish"]:List Str) [0,1,2] sc_z3.nd rfl (Or.inl rfl) rfl ⟨rfl,by decide +kernel,by decide +kernel,by rfl,⟨⟨rfl,by first | exact Or.inl rfl | exact Or.inr rfl,by first | exact Or.inl rfl | exact Or.inr rfl⟩,⟨rfl,by first | exact Or.inl rfl | exact Or.inr rfl,by first | exact Or.inl rfl | exact Or.inr rfl⟩,⟨rfl,by first | exact Or.inl rfl | exact Or.inr rfl,by first | exact Or.inl rfl | exact Or.inr rfl⟩,trivial⟩⟩ (j1l (j7o hr rfl (by rfl) T.n_sorted (by rfl) T.n_set (j00 (pv 3) j02))) (fun _ _ _ _=>⟨(j0e (i:=0) (by show ((["after"]:List Str)++(["self","before","wish"]:List Str)).Nodup;decide +kernel) rfl (by first | exact Or.inl rfl | exact Or.inr rfl)),(show PTs _ [] [] from trivial),(j1v (j00 (pv 0) (j00 (je7 (j2f (pv 1) T.cl_Bags T.me_Bags_price (j54 T) (hr.mono (by decide)) T.b_z10 .nil j0s (j00 (pv 2) (j00 (pv 3) (j00 (pv 0) j02)))) (j2f (pv 1) T.cl_Line T.me_Line_price (j52 T) (hr.mono (by decide)) T.b_z12 .nil j0s (j00 (pv 2) (j00 (pv 3) (j00 (pv 0) j02))))) j02)))⟩))
   (j06 (j0d (j2g (["pair"]:List Str) ([]:List Str) [] rfl ⟨rfl,by decide +kernel,by decide +kernel,by rfl,trivial⟩ (j1l (pv 4)) (fun _ _ _ _=>⟨(j0e (i:=0) (by show ((["pair"]:List Str)++([]:List Str)).Nodup;decide +kernel) rfl (by first | exact Or.inl rfl | exact Or.inr rfl)),(show PTs _ [_] [_] from⟨(j0f oNotN (j2o oIx (pv 0) j09 (fun _ _=>rfl)) j3r (j0o _)),trivial⟩),(pv 0)⟩))))),?_⟩
  walk_at "v"
  refine j7p hp hrf h60 (fun L hL'=>?_) fun lq H1 vs' Ms n1 q1 e1 rf pw mm l18=>?_
  ·exact go_ne hok (hL L hL')
  have hr1:=G65.mono e1 hr0
  have hb1:=e1 _ _ hb
  have lv:=rf.length
  have ndM:Ms.Nodup:=pw.imp fun z e=>by rw[e] at z;exact List.lt_irrefl _ z
  refine⟨lq,rfl,⟨_,SqL.of q1⟩,fun acc hn _ _ _ _=>j0x (SqL.of q1) (by omega) hn (fun j ys H2=>PairsH H2 ys ((Ms.take j).map (pr65 gg ns))) .nil (fun _ _ _ _ k h=>PairsH.keep k h) (fun j ys H' _ h=>by have:=h.length;rw[List.length_map,List.length_take] at this;omega) ?_ ?_⟩
  ·rintro j y ys H2 hy e hrep Y N hY hN
   obtain⟨c,rfl,hc⟩:=rf.get j y hy
   have hj:j < Ms.length:=by
    obtain⟨z,_⟩:=List.getElem?_eq_some_iff.mp hy
    omega
   have hM:Ms.getD j []∈Ms:=by rw[List.getD_eq_getElem?_getD,List.getElem?_eq_getElem hj];exact List.getElem_mem hj
   have hg:=hL _ ((mm _).mp hM)
   have hr2:=G65.mono e hr1
   cases gg with
   | line =>
    obtain⟨dw,m,hr2⟩:=hr2
    obtain⟨o1,o2⟩:=hok
    have gl:(Ms.getD j []).length=ns.length∧w∈Ms.getD j []:=by
     rcases hg with⟨z,e⟩ | ⟨_,k,hk,hs⟩
     ·rw[e];exact⟨rfl,z⟩
     ·exact⟨hs.len hk,hs.mem⟩
    walk_at "v"
    refine jb7 ?_
    walk_at "v"
    refine⟨r,b,c,ns,Ms.getD j [],w,rfl,e _ _ hb1,e _ _ hc,gl.1.symm,by omega,fun H3 e3=>?_⟩
    rw[if_pos gl.2]
    walk_at "v"
    intro q H4 nq qq eq
    refine hY _ _ (e3.tr eq) ?_
    have et:(Ms.take (j+1)).map (pr65 .line ns)=(Ms.take j).map (pr65 .line ns)++[(Ms.getD j [],G65.pr .line ns (Ms.getD j []))]:=by
     rw[List.take_add_one,List.getElem?_eq_getElem hj,List.map_append,List.getD_eq_getElem?_getD,List.getElem?_eq_getElem hj]
     rfl
    rw[et]
    exact PairsH.snoc qq ((e.tr (e3.tr eq)) _ _ hc) (hrep.mono (e3.tr eq))
   | bags R =>
    obtain⟨dw,hr2⟩:=hr2
    obtain⟨o1,o2⟩:=hok
    obtain⟨pr,hg⟩:=hg
    walk_at "v"
    refine je8 ?_
    walk_at "v"
    refine⟨r,dw,b,c,ns,Ms.getD j [],R,w,pr,rfl,hr2,e _ _ hb1,e _ _ hc,o1,hwk.1,by omega,hg,fun H3 e3=>?_⟩
    rw[hg.pr]
    walk_at "v"
    intro q H4 nq qq eq
    refine hY _ _ (e3.tr eq) ?_
    have et:(Ms.take (j+1)).map (pr65 (.bags R) ns)=(Ms.take j).map (pr65 (.bags R) ns)++[(Ms.getD j [],G65.pr (.bags R) ns (Ms.getD j []))]:=by
     rw[List.take_add_one,List.getElem?_eq_getElem hj,List.map_append,List.getD_eq_getElem?_getD,List.getElem?_eq_getElem hj]
     rfl
    rw[et]
    exact PairsH.snoc qq ((e.tr (e3.tr eq)) _ _ hc) (hrep.mono (e3.tr eq))
  rintro ys H2 e2 ha hrep
  rw[List.take_of_length_le (by omega)] at hrep
  have hl:=hrep.length
  rw[List.length_map] at hl
  walk_at "v"
  refine⟨acc,rfl,⟨_,SqL.of ha⟩,fun acc2 hn2 _ _ _ _=>j0x (SqL.of ha) (by omega) hn2 (fun j zs _=>zs=ys.take j) rfl (fun _ _ _ _ _ h=>h) (fun j ys H' _ h=>by rw[h,List.length_take];omega) ?_ ?_⟩
  ·rintro j y zs H3 hy e rfl Y N hY hN
   obtain⟨c,a',rfl,g,_⟩:=PairsH.get hrep j y hy
   walk_at "v"
   refine j5c (e _ _ g) rfl ?_
   walk_at "v"
   exact hY _ _ Ext.rfl' (by rw[List.take_add_one,hy];rfl)
  rintro zs H3 e3 ha2 rfl
  rw[List.take_of_length_le (Nat.le_refl _)] at ha2
  have x2:=e1.tr e2
  exact hq acc2 _ Ms H3 (x2.free hn2) ha2 (hrep.mono e3) ndM mm (by omega) (x2.tr e3)
def jij:Sp:=fun vs H Q _=>∃ (p:Addr) (ns:List Int) (k:Nat) (w:Int),vs=[.ref p,.int k,.int w]∧H p=some (.tup (ns.map V.int))∧k < ns.length∧ns.length≤60∧∀ l ms H',Sent ns k w ms→H' l=some (.tup (ms.map V.int))→Ext H H'→Q (.ref l) H'
theorem jik (T:Txt K mg a):FnOk P w K mg base (CXU P w) 1 a.f_z28 a.d_z28 ["places","at","wish"] (jij):=by
 refine T.F_z28.okU sc_z28 (fun vs H Q E h=>?_) (fun cdv A outer s H vs Q E hr h=>?_)
 ·obtain⟨p,ns,k,w,rfl,hp,hk,hz,hq⟩:=h
  rfl
 ·obtain⟨p,ns,k,w,rfl,hp,hk,hz,hq⟩:=h
  refine⟨_,(j06 (j0d (j0j j4l (by rfl) T.n_tuple PyProof.Rows.boot_tuple (j00 (j07 j7m (by rfl) T.n_sorted PyProof.Rows.boot_sorted (j00 (j0l j1n (j0l j1n (j16 oSlV (pv 0) j1w (j1x (pv 1))) (j1v (j00 (pv 2) j02))) (j16 oSlV (pv 0) (j1x (j0l j1n (pv 1) j09)) j1w)) j02)) j02)))),?_⟩
  walk_at "v"
  refine jfm hp fun l1 H1 q1 e1=>?_
  rw[j45 (by omega)] at q1
  walk_at "v"
  intro l2 H2 n2 q2 e2
  walk_at "v"
  refine j1o (e2 _ _ q1) q2 (by simp;omega) fun l3 H3 q3 e3=>?_
  have x3:=(e1.tr e2).tr e3
  walk_at "v"
  refine jfm (x3 _ _ hp) fun l4 H4 q4 e4=>?_
  rw[show (some ((k:Int)+1))=some ((k+1:Nat):Int) from by rw[Int.natCast_add];rfl,j44 (by omega)] at q4
  walk_at "v"
  refine j1o (e4 _ _ q3) q4 (by simp;omega) fun l5 H5 q5 e5=>?_
  have e:(ns.take k).map V.int++[V.int w]++(ns.drop (k+1)).map V.int=(ns.take k++[w]++ns.drop (k+1)).map V.int:=by simp
  rw[e] at q5
  walk_at "v"
  refine j7t q5 (by simp;omega) fun l6 ms H6 n6 pm pw q6 e6=>?_
  walk_at "v"
  refine j1c q6 fun l7 H7 n7 q7 e7=>?_
  exact hq l7 ms H7 ⟨pm,pw⟩ q7 (x3.tr (e4.tr (e5.tr (e6.tr e7))))
def j55 (a:Adr):Sp:=fun us H Q _=>∃ (r b:Addr) (ns:List Int) (w:Int),us=[.ref r,.ref b,.int w]∧G65.at_ a H .line r∧H b=some (.tup (ns.map V.int))∧G65.ok .line 40 ns ∧
 ∀ l ys (Ms:List (List Int)) H',H l=none→H' l=some (.lst ys)→PairsH H' ys (Ms.map (pr65 .line ns))→Ms.Nodup→(∀ L,L∈Ms↔G65.go .line w ns L)→Ms.length≤60→Ext H H'→Q (.ref l) H'
theorem j56 (T:Txt K mg a):FnOk P w K mg base (CXU P w) 4 a.f_z11 a.d_z11 ["self","before","wish"] (j55 a):=by
 refine T.F_z11.okU sc_z11 (fun vs H Q E h=>?_) (fun cdv A outer s H vs Q E hr h=>?_)
 ·obtain⟨r,b,ns,w,rfl,hr0,hb,⟨l1,l2⟩,hq⟩:=h
  rfl
 ·obtain⟨r,b,ns,w,rfl,hr0,hb,⟨l1,l2⟩,hq⟩:=h
  have zc_Bags:=T.cl_Bags
  have zn_Bags_room:=T.na_Bags_room
  have zc_Line:=T.cl_Line
  have zn_Line_many:=T.na_Line_many
  have zc_Shelf:=T.cl_Shelf
  have zn_Shelf_things:=T.na_Shelf_things
  refine⟨_,(j03 (j2l (j0f oIn (pv 2) (pv 1) (by with_unfolding_all rfl)) (j06 (j0d (j2f (pv 0) T.cl_Line T.me_Line_priced (j11 T) (hr.mono (by decide)) T.b_z3 .nil j0s (j00 (pv 1) (j00 (pv 2) (j00 (j1k (j00 (pv 1) j02)) j02)))))) j0h)
   (j06 (j0d (j2f (pv 0) T.cl_Line T.me_Line_priced (j11 T) (hr.mono (by decide)) T.b_z3 .nil j0s (j00 (pv 1) (j00 (pv 2) (j00 (j2g (["at"]:List Str) (["before","wish"]:List Str) [1,2] rfl ⟨rfl,by decide +kernel,by decide +kernel,by rfl,⟨⟨rfl,by first | exact Or.inl rfl | exact Or.inr rfl,by first | exact Or.inl rfl | exact Or.inr rfl⟩,⟨rfl,by first | exact Or.inl rfl | exact Or.inr rfl,by first | exact Or.inl rfl | exact Or.inr rfl⟩,trivial⟩⟩ (j0w rfl T.n_range (j00 (j07 j6s (by rfl) T.n_len PySem.boot_len (j00 (pv 1) j02)) j02)) (fun _ _ _ _=>⟨(j0e (i:=0) (by show ((["at"]:List Str)++(["before","wish"]:List Str)).Nodup;decide +kernel) rfl (by first | exact Or.inl rfl | exact Or.inr rfl)),(show PTs _ [] [] from trivial),(j0c (jik T) (hr.mono (by decide)) (by rfl) T.m_z28 T.F_z28.kp T.b_z28 .nil j0s (j00 (pv 1) (j00 (pv 0) (j00 (pv 2) j02))))⟩)) j02))))))),?_⟩
  obtain⟨dw,m,hr0⟩:=hr0
  walk_at "v"
  refine r_inT hb rfl (j3y _) ?_
  rw[j5o]
  walk_at "v"
  refine iteD (fun hw=>?_) (fun hw=>?_)
  ·walk_at "v"
   intro lp H1 n1 q1 e1
   have hr1:=e1 _ _ hr0
   walk_at "v"
   refine⟨.line,r,b,lp,ns,_,[ns],w,rfl,⟨dw,m,hr1⟩,e1 _ _ hb,q1,.cons (e1 _ _ hb) .nil,by simp,⟨l1,l2⟩,trivial,fun L hL=>?_,fun l ys Ms H2 n2 q2 p2 pw mm l18 e2=>?_⟩
   ·rw[List.mem_singleton.mp hL];exact .inl ⟨hw,rfl⟩
   ·refine hq l ys Ms H2 (e1.free n2) q2 p2 pw (fun L=>?_) l18 (e1.tr e2)
    rw[mm,List.mem_singleton]
    exact⟨fun z=>.inl ⟨hw,z⟩,fun z=>z.elim (fun y=>y.2) fun y=>absurd hw y.1⟩
  ·walk_at "v"
   refine j1f hb ?_
   rw[List.length_map]
   walk_at "v"
   refine⟨_,rfl,by omega,by omega,fun acc hn _ _ _ _=>j1e (by omega) hn (fun j ys H2=>∃ Ls:List (List Int),RefsH H2 ys Ls∧Ls.length=j∧∀ i,i < j→Sent ns i w (Ls.getD i [])) ⟨[],.nil,rfl,fun i hi=>by omega⟩ (fun _ _ _ _ k h=>?_) (fun j ys H' _ h=>?_) ?_ ?_⟩
   ·obtain⟨Ls,h1,h2,h3⟩:=h
    exact⟨Ls,RefsH.keep k h1,h2,h3⟩
   ·obtain⟨Ls,h1,h2,h3⟩:=h
    have:=h1.length
    omega
   ·rintro j ys H2 hj e ⟨Ls,h1,h2,h3⟩ Y N hY hN
    walk_at "v"
    refine⟨b,ns,j,w,by simp,e _ _ hb,by omega,by omega,fun l ms H3 hs q3 e3=>?_⟩
    refine hY _ _ e3 ⟨Ls++[ms],RefsH.snoc e3 q3 h1,by simp[h2],fun i hi=>?_⟩
    by_cases z:i < j
    ·rw[j4y (by omega)]
     exact h3 i z
    ·obtain rfl:i=j:=by omega
     rw[← h2,j2i,h2]
     exact hs
   ·rintro ys H2 e2 ha ⟨Ls,h1,h2,h3⟩
    have hl:=h1.length
    have each:∀ L,L∈Ls↔GoL ns w L:=fun L=>by
     constructor
     ·intro hL
      obtain⟨i,hi,e⟩:=j0v.mpr hL
      have:=h3 i (by omega)
      rw[e] at this
      exact .inr ⟨hw,i,by omega,this⟩
     ·rintro (⟨z,_⟩ | ⟨_,k,hk,hs⟩)
      ·exact absurd z hw
      ·have hk':=h3 k (by omega)
       exact j0v.mp ⟨k,by omega,j0y (hk'.1.trans hs.1.symm) hk'.2 hs.2⟩
    have hr2:=e2 _ _ hr0
    walk_at "v"
    refine⟨.line,r,b,acc,ns,ys,Ls,w,rfl,⟨dw,m,hr2⟩,e2 _ _ hb,ha,h1,by omega,⟨l1,l2⟩,trivial,fun L hL=>(each L).mp hL,fun l ys' Ms H3 n3 q3 p3 pw mm l18 e3=>?_⟩
    exact hq l ys' Ms H3 (e2.free n3) q3 p3 pw (fun L=>by rw[mm,each];rfl) l18 (e2.tr e3)
def j57 (a:Adr):Sp:=fun us H Q _=>∃ (r b:Addr) (R:Int) (os:List Int) (s:Int),us=[.ref r,.ref b,.int s]∧G65.at_ a H (.bags R) r∧H b=some (.tup (os.map V.int))∧G65.ok (.bags R) 40 os∧G65.okW (.bags R) s ∧
 ∀ l ys (Ms:List (List Int)) H',H l=none→H' l=some (.lst ys)→PairsH H' ys (Ms.map (pr65 (.bags R) os))→Ms.Nodup→(∀ L,L∈Ms↔G65.go (.bags R) s os L)→Ms.length≤60→Ext H H'→Q (.ref l) H'
theorem j58 (T:Txt K mg a):FnOk P w K mg base (CXU P w) 4 a.f_z9 a.d_z9 ["self","before","wish"] (j57 a):=by
 refine T.F_z9.okU jmm (fun vs H Q E h=>?_) (fun cdv A outer s H vs Q E hr h=>?_)
 ·obtain⟨r,b,R,os,s,rfl,hr0,hb,⟨hL,l4⟩,⟨s1,s2⟩,hq⟩:=h
  rfl
 ·obtain⟨r,b,R,os,s,rfl,hr0,hb,⟨hL,l4⟩,⟨s1,s2⟩,hq⟩:=h
  have zc_Bags:=T.cl_Bags
  have zn_Bags_room:=T.na_Bags_room
  have zc_Line:=T.cl_Line
  have zn_Line_many:=T.na_Line_many
  have zc_Shelf:=T.cl_Shelf
  have zn_Shelf_things:=T.na_Shelf_things
  refine⟨_,(j03 (j0t (i:=3) (["load"]:List Str) (["wish","self"]:List Str) [2,0] jmm.nd rfl (Or.inl rfl) rfl ⟨rfl,by decide +kernel,by decide +kernel,by rfl,⟨⟨rfl,by first | exact Or.inl rfl | exact Or.inr rfl,by first | exact Or.inl rfl | exact Or.inr rfl⟩,⟨rfl,by first | exact Or.inl rfl | exact Or.inr rfl,by first | exact Or.inl rfl | exact Or.inr rfl⟩,trivial⟩⟩ (j1l (j7s rfl (by rfl) T.n_sorted (by rfl) T.n_set (j00 (pv 1) j02))) (fun _ _ _ _=>⟨(j0e (i:=0) (by show ((["load"]:List Str)++(["wish","self"]:List Str)).Nodup;decide +kernel) rfl (by first | exact Or.inl rfl | exact Or.inr rfl)),(show PTs _ [_] [_] from⟨(j0f oLeW (j0l j1n (pv 0) (pv 1)) (jfv (pv 2) rfl) (j0o _)),trivial⟩),(pv 0)⟩))
   (j03 (j0t (i:=4) (["load"]:List Str) (["before","wish"]:List Str) [1,2] jmm.nd rfl (Or.inl rfl) rfl ⟨rfl,by decide +kernel,by decide +kernel,by rfl,⟨⟨rfl,by first | exact Or.inl rfl | exact Or.inr rfl,by first | exact Or.inl rfl | exact Or.inr rfl⟩,⟨rfl,by first | exact Or.inl rfl | exact Or.inr rfl,by first | exact Or.inl rfl | exact Or.inr rfl⟩,trivial⟩⟩ (j1l (pv 3)) (fun _ _ _ _=>⟨(j0e (i:=0) (by show ((["load"]:List Str)++(["before","wish"]:List Str)).Nodup;decide +kernel) rfl (by first | exact Or.inl rfl | exact Or.inr rfl)),(show PTs _ [] [] from trivial),(j0c (j78 T) (hr.mono (by decide)) (by rfl) T.m_z24 T.F_z24.kp T.b_z24 .nil j0s (j00 (pv 1) (j00 (pe_tm PySem.F.plainAttrs_tuple PySem.F.slot_tuple_index PySem.F.type_tuple_index j9m (pv 1) (j00 (pv 0) j02)) (j00 (pv 2) j02))))⟩))
   (j06 (j0d (j2f (pv 0) T.cl_Bags T.me_Bags_priced (j11 T) (hr.mono (by decide)) T.b_z3 .nil j0s (j00 (pv 1) (j00 (pv 2) (j00 (j0l j1n (pv 4) (j1k (j00 (j0c (j79 T) (hr.mono (by decide)) (by rfl) T.m_z25 T.F_z25.kp T.b_z25 .nil j0s (j00 (pv 1) (j00 (pv 2) j02))) j02))) j02)))))))),?_⟩
  obtain⟨dw,hr0⟩:=hr0
  walk_at "v"
  refine j9w os hb (fun n h=>h) (by omega) fun lk ks H1 n1 q1 pwk mk e1=>?_
  have hr1:=e1 _ _ hr0
  have hb1:=e1 _ _ hb
  have lk:=jbr (pwk.imp fun z e=>by omega) fun x hx=>(mk x).mp hx
  walk_at "v"
  refine⟨_,rfl,⟨_,SqL.of q1⟩,fun acc hn _ _ _ _=>j0x (SqL.of q1) (by rw[List.length_map];omega) hn (fun j ys _=>ys=((ks.take j).filter fun k=>decide (k+s≤R)).map V.int) rfl (fun _ _ _ _ _ h=>h) (fun j ys H' _ h=>by rw[h,List.length_map];exact Nat.le_trans (List.length_filter_le _ _) (by rw[List.length_take];omega)) ?_ ?_⟩
  ·rintro j y ys H2 hy e rfl Y N hY hN
   obtain⟨y,ey,rfl⟩:=j3m hy
   have hr2:=e _ _ hr1
   have et:ks.take (j+1)=ks.take j++[y]:=by rw[List.take_add_one,ey];rfl
   walk_at "v"
   refine iteD (fun c=>?_) (fun c=>?_)
   ·walk_at "v"
    refine hY _ _ Ext.rfl' ?_
    rw[et,List.filter_append,List.filter_cons,if_pos (decide_eq_true c),List.filter_nil,List.map_append]
    rfl
   ·walk_at "v"
    refine hN _ Ext.rfl' ?_
    rw[et,List.filter_append,List.filter_cons,if_neg (fun z=>c (of_decide_eq_true z)),List.filter_nil,List.append_nil]
  rintro ys H2 e2 ha rfl
  rw[List.length_map,List.take_length] at ha
  have hr2:=e2 _ _ hr1
  have hb2:=e2 _ _ hb1
  have lf:=List.length_filter_le (fun k=>decide (k+s≤R)) ks
  obtain⟨fs,efs,hfs⟩:∃ fs,ks.filter (fun k=>decide (k+s≤R))=fs∧∀ k,k∈fs↔k∈os∧k+s≤R:=⟨_,rfl,fun k=>by rw[List.mem_filter,mk,decide_eq_true_iff]⟩
  rw[efs] at ha lf
  walk_at "v"
  refine⟨_,rfl,⟨_,SqL.of ha⟩,fun acc2 hn2 _ _ _ _=>j0x (SqL.of ha) (by rw[List.length_map];omega) hn2 (fun j ys H3=>∃ Ls:List (List Int),RefsH H3 ys Ls∧Ls.length=j∧(∀ L∈Ls,Goes R os s L 0)∧∀ i,i < j→(Ls.getD i []).Perm (os.set (os.idxOf (fs.getD i 0)) (fs.getD i 0+s))∧(Ls.getD i []).Pairwise (·≤·)) ⟨[],.nil,rfl,(fun L hL=>by cases hL),fun i hi=>by omega⟩ (fun _ _ _ _ k h=>?_) (fun j ys H' _ h=>?_) ?_ ?_⟩
  ·obtain⟨Ls,h1,h2⟩:=h
   exact⟨Ls,RefsH.keep k h1,h2⟩
  ·obtain⟨Ls,h1,h2,_⟩:=h
   have:=h1.length
   omega
  ·rintro j y ys H3 hy e ⟨Ls,h1,h2,h3,h4⟩ Y N hY hN
   obtain⟨y,ey,rfl⟩:=j3m hy
   have gy:fs.getD j 0=y:=by rw[List.getD_eq_getElem?_getD,ey];rfl
   obtain⟨yo,yR⟩:=(hfs y).mp (List.mem_of_getElem? ey)
   have hb3:=e _ _ hb2
   have ix:=List.idxOf_lt_length_iff.mpr yo
   have gi:os.getD (os.idxOf y) 0=y:=by rw[List.getD_eq_getElem?_getD,List.getElem?_eq_getElem ix,List.getElem_idxOf ix];rfl
   walk_at "v"
   refine jbl hb3 yo (by omega) ?_
   walk_at "v"
   refine⟨b,os,s,os.idxOf y,rfl,hb3,ix,by omega,fun l ms H4 pm pw q4 e4=>?_⟩
   rw[gi] at pm
   refine hY _ _ e4 ⟨Ls++[ms],RefsH.snoc e4 q4 h1,by simp[h2],fun L hL=>?_,fun i hi=>?_⟩
   ·rcases List.mem_append.mp hL with z | z
    ·exact h3 L z
    ·rw[List.mem_singleton.mp z]
     exact⟨pw,.inr ⟨rfl,_,ix,by rw[gi];exact yR,by rw[gi];exact pm⟩⟩
   ·by_cases z:i < j
    ·rw[List.getD_eq_getElem?_getD (l:=Ls++[ms]),List.getElem?_append_left (by omega),← List.getD_eq_getElem?_getD]
     exact h4 i z
    ·obtain rfl:i=j:=by omega
     rw[List.getD_eq_getElem?_getD (l:=Ls++[ms]),List.getElem?_append_right (by omega),h2,Nat.sub_self,gy]
     exact⟨pm,pw⟩
  rintro ys H3 e3 ha3 ⟨Ls,h1,h2,h3,h4⟩
  rw[List.length_map] at h2 h4
  have hr3:=e3 _ _ hr2
  have hb3:=e3 _ _ hb2
  have ly:=h1.length
  walk_at "v"
  refine⟨b,os,s,rfl,hb3,by omega,fun qo go H4 po wo q4 e4=>?_⟩
  have hr4:=e4 _ _ hr3
  walk_at "v"
  intro l5 H5 n5 q5 e5
  walk_at "v"
  refine jhg ((e4.tr e5) _ _ ha3) q5 (by simp;omega) fun l6 H6 n6 q6 e6=>?_
  have x46:=e5.tr e6
  walk_at "v"
  have hgo:Goes R os s go 1:=⟨wo,.inl ⟨rfl,po⟩⟩
  have hall:∀ L∈Ls++[go],∃ pr,Goes R os s L pr:=fun L hL'=>by
   rcases List.mem_append.mp hL' with z | z
   ·exact⟨0,h3 L z⟩
   ·rw[List.mem_singleton.mp z];exact⟨1,hgo⟩
  refine⟨.bags R,r,b,l6,os,_,Ls++[go],s,rfl,⟨dw,x46 _ _ hr4⟩,(e4.tr x46) _ _ hb3,q6,RefsH.snoc e6 ((e5.tr e6) _ _ q4) (h1.mono (e4.tr e5)),by simp;omega,⟨hL,l4⟩,⟨s1,s2⟩,hall,fun l7 y7 Ms H7 n7 q7 p7 pw7 m7 l7' e7=>?_⟩
  ·have x6:=e1.tr (e2.tr (e3.tr (e4.tr x46)))
   refine hq l7 y7 Ms H7 (x6.free n7) q7 p7 pw7 (fun L=>?_) l7' (x6.tr e7)
   rw[m7]
   refine⟨hall L,fun⟨pr,hg⟩=>?_⟩
   rcases hg.2 with⟨_,pm⟩ | ⟨_,k,hk,hR,pm⟩
   ·exact List.mem_append_right _ (List.mem_singleton.mpr (j0y (pm.trans po.symm) hg.1 wo))
   ·have ko:os.getD k 0∈os:=jbv hk
    obtain⟨i,hi,ei⟩:=List.getElem_of_mem ((hfs _).mpr ⟨ko,hR⟩)
    have gi:fs.getD i 0=os.getD k 0:=by rw[List.getD_eq_getElem?_getD,List.getElem?_eq_getElem hi];exact ei
    obtain⟨w1,w2⟩:=h4 i (by omega)
    rw[gi] at w1
    have ix:=List.idxOf_lt_length_iff.mpr ko
    have gk:os.getD (os.idxOf (os.getD k 0)) 0=os.getD k 0:=by rw[List.getD_eq_getElem?_getD,List.getElem?_eq_getElem ix,List.getElem_idxOf ix];rfl
    refine List.mem_append_left _ (j0v.mp ⟨i,by omega,?_⟩)
    exact j0y (w1.trans ((j9z ix hk gk).trans pm.symm)) w2 hg.1
def ja3 (a:Adr):Sp:=fun vs H Q E=>∃ (w d:Addr) (o:Obj) (kvs:List (List Key × V)) (wv:V),vs=[.ref w,.ref d,wv]∧H d=some (.frz o (.dT kvs)) ∧
 ((∃ (g:G65) (x:Int) (A:List (List Int)),wv=.int x∧g.at_ a H w∧RowV (pv0 H) kvs A∧A.length≤60∧(∀ L∈A,g.ok 40 L)∧g.okW x ∧
   (∀ d' o' kvs' B H',H d'=none→H' d'=some (.frz o' (.dT kvs'))→RowV (pv0 H') kvs' B→Stp g x A B→B.length≤60→Ext H H'→Q (.ref d') H') ∧
   (∀ B,Stp g x A B→60 < B.length→Grt a H E)) ∨
   (∃ (v:V) (ss:List Str) (x:Str),wv=.str x∧ShAt a H w∧kvs=[(ss.map Sum.inr,v)]∧pv0 H v∧4 < ss.length∧Grt a H E))
theorem ja4 (T:Txt K mg a):FnOk P w K mg base (CXU P w) 5 a.f_z23 a.d_z23 ["world","row","wish"] (ja3 a):=by
 refine T.F_z23.okX j7u (fun vs H Q E h=>?_) (fun cdv A outer s H vs Q E hr h=>?_)
 ·obtain⟨w,d,o,kvs,wv,rfl,hd,h⟩:=h
  rfl
 ·obtain⟨w,d,o,kvs,wv,rfl,hd,h⟩:=h
  have zc_Bags:=T.cl_Bags
  have zn_Bags_room:=T.na_Bags_room
  have zc_Line:=T.cl_Line
  have zn_Line_many:=T.na_Line_many
  have zc_Shelf:=T.cl_Shelf
  have zn_Shelf_things:=T.na_Shelf_things
  refine⟨_,(j03 (j0n (i:=3) j7u.nd rfl (by first | exact Or.inl rfl | exact Or.inr rfl) j8h)
   (j03 (j3s (jjf ja8) rfl (jm9 (pv 1)) (j0e (i:=4) j7u.nd rfl (by first | exact Or.inl rfl | exact Or.inr rfl)) (j03 (j0n (i:=5) j7u.nd rfl (by first | exact Or.inl rfl | exact Or.inr rfl) (j2o oIx (j2a hr (pv 1) (pv 4) (fun _ _=>rfl)) j09 (fun _ _=>rfl)))
   (j06 (j3s (jjf ja8) rfl (j1l (je7 (j2f (pv 0) T.cl_Bags T.me_Bags_moves (j58 T) (hr.mono (by decide)) T.b_z9 .nil j0s (j00 (pv 4) (j00 (pv 2) j02))) (je7 (j2f (pv 0) T.cl_Line T.me_Line_moves (j56 T) (hr.mono (by decide)) T.b_z11 .nil j0s (j00 (pv 4) (j00 (pv 2) j02))) (j2f (pv 0) T.cl_Shelf T.me_Shelf_moves (j47 T) (hr.mono (by decide)) T.b_z6 .nil (jjg ja8) (j00 (pv 4) (j00 (pv 2) j02)))))) (jd5 rfl (j27 (j0e (i:=6) j7u.nd rfl (by first | exact Or.inl rfl | exact Or.inr rfl)) (j27 (j0e (i:=7) j7u.nd rfl (by first | exact Or.inl rfl | exact Or.inr rfl)) j7z))) (j06 (j2l (PW.pt (pw_or (j0f (ji0 hr) (pv 6) (pv 3) (by with_unfolding_all rfl)) (jfp (j0f jjz (j0l j1n (pv 5) (pv 7)) (j2o oIx (j2a hr (pv 3) (pv 6) (fun _ _=>rfl)) j09 (fun _ _=>rfl)) (j0o _))))) (j06 (j91 hr (pv 3) (pv 6) (j1v (j00 (j0l j1n (pv 5) (pv 7)) (j00 (pv 4) j02))) rfl)) j0h))))))
   (j03 (j2l (j0f jfh (j07 cLenT (by rfl) T.n_len PySem.boot_len (j00 (pv 3) j02)) (j3d (v:=V.int 60) (by rfl) T.m_MOST_STATES ⟨_,rfl⟩) (j0o _)) (j06 (j6q ja8 rfl (jcb (T.ek_TooGreat.em (.inr ⟨_,rfl⟩)) (j1a T) (hr.mono (by decide)) (by rfl) T.m_TooGreat T.b1_LateError_init T.w_LateError_init j0s))) j0h)
   (j06 (j0d (jbm (pv 3))))))),?_⟩
  walk_at "v"
  refine jcx fun fd H1 n1 q1 e1=>?_
  walk_at "v"
  refine jma ?_
  walk_at "v"
  rcases h with⟨g,x,A,rfl,hw,hR,hA,hok,hwk,hq,hx⟩ | ⟨v,ss,x,rfl,⟨dw,m,hw⟩,rfl,⟨q,p,bv,rfl,hv⟩,l4,hx⟩
  ·refine⟨d,o,kvs,rfl,e1 _ _ hd,jex (Pv:=fun i σ H3=>∃ (u1 u2 u3 u4:Option V) (kf:List (List Key × V)) (ks:List (List Int)),σ=[some (.ref w),some (.ref d),some (.int x),some (.ref fd),u1,u2,u3,u4]∧Ext H H3∧H3 fd=some (.dT kf)∧RowV (pv0 H3) kf ks∧Stp g x (A.take i) ks∧ks.length≤60 * i) ⟨none,none,none,none,[],[],rfl,e1,q1,⟨rfl,fun _ h=>by cases h⟩,⟨List.nodup_nil,fun L=>by simp⟩,by simp⟩ (fun i σ H3 _ h=>by obtain⟨_,_,_,_,_,_,_,x,_⟩:=h;exact x _ _ hd) ?_ ?_⟩
   ·rintro i kv bk σ H3 hkv hbk ⟨u1,u2,u3,u4,kf,ks,rfl,x3,qf,rf,st,lk⟩
    obtain⟨L,eL,ek,_⟩:=hR.at hkv
    have hbk':H3 bk=some (.tup (L.map V.int)):=by rw[ek] at hbk;rw[← j13];exact hbk
    obtain⟨v,v1,⟨q',p',bv',rfl,v3⟩,_⟩:=(hR.val L).resolve_left (fun z=>z.2 (List.mem_of_getElem? eL))
    have hLok:=hok L (List.mem_of_getElem? eL)
    have et:A.take (i+1)=A.take i++[L]:=by rw[List.take_add_one,eL];rfl
    have hi:i < 60:=by have:=(List.getElem?_eq_some_iff.mp eL).1;omega
    walk_at "v"
    refine j2h (k:=kI L) (.inr ⟨o,x3 _ _ hd⟩) (by rw[j13];exact hbk') v1 ?_
    walk_at "v"
    refine j5c (x3 _ _ v3) rfl ?_
    have hw3:=G65.mono x3 hw
    cases g with
    | line =>
     obtain⟨dw,m,hw4⟩:=hw3
     walk_at "v"
     refine jb7 (je8 ?_)
     walk_at "v"
     refine⟨w,bk,L,x,rfl,⟨dw,m,hw4⟩,hbk',hLok,fun l ys Ms H4 n4 q4 r4 pw4 g4 l18 e4=>?_⟩
     have l4:=r4.length
     rw[List.length_map] at l4
     have qf4:=e4 _ _ qf
     have nlf:l≠fd:=(j05 qf n4).symm
     have hbk4:=e4 _ _ hbk'
     walk_at "v"
     refine⟨l,rfl,⟨_,SqL.of q4⟩,j1r (xs:=ys) (fun j σ H5=>∃ (u3 u4:Option V) (kf:List (List Key × V)) (ks':List (List Int)),σ=[some (.ref w),some (.ref d),some (.int x),some (.ref fd),some (.ref bk),some (.int p'),u3,u4]∧But fd H4 H5∧H5 fd=some (.dT kf)∧RowV (pv0 H5) kf ks'∧ks'.Nodup∧(∀ M,M∈ks'↔M∈ks∨M∈Ms.take j)∧ks'.length≤ks.length+j) ⟨_,_,kf,ks,rfl,fun b o _ h=>h,qf4,rf.imp (j38 (j50 e4)),st.1,fun M=>by simp,by simp⟩ (fun j σ H5 _ h=>by obtain⟨_,_,_,_,_,b5,_⟩:=h;exact SqL.of (b5 _ _ nlf q4)) ?_ ?_⟩
     ·rintro j y σ H5 hy ⟨u3,u4,kf,ks',rfl,b5,q5,r5,nd5,m5,k5⟩
      obtain⟨cy,ay,rfl,gy,gay⟩:=PairsH.get r4 j y hy
      have hj:j < Ms.length:=by have:=(List.getElem?_eq_some_iff.mp hy).1;omega
      have tk5:TK H4 H5:=j1q qf4 b5
      have em:=j5y hj
      rw[jcz hj] at gy gay
      generalize Ms.getD j []=M at *
      have gy5:=tk5 _ _ gy
      have gay5:=tk5 _ _ gay
      have gay5':H5 ay=some (.tup ((kI M).map kV)):=by rw[j13];exact gay5
      have lk5:kf.length < 1000000:=by have:=r5.length;omega
      have step:∀ N,N∈addL ks' M↔N∈ks∨N∈Ms.take (j+1):=fun N=>by rw[j5w,m5,em,or_assoc]
      have al:=j5x (ks:=ks') (L:=M)
      walk_at "v"
      refine jcv (.inl q5) gay5' ?_
      rcases r5.val M with⟨z1,z2⟩ | ⟨v,z1,⟨q2,p2,bv2,rfl,z3⟩,z4⟩
      ·rw[z1]
       walk_at "v"
       intro tq H6 n6 q6 e6
       walk_at "v"
       refine j4v (e6 _ _ q5) (e6 _ _ gay5') lk5 fun H7 q7 b7=>?_
       have t67:=j1q (e6 _ _ q5) b7
       exact⟨_,_,_,_,rfl,fun b o nb hb=>b7 b o nb (e6 b o (b5 b o nb hb)),q7,RowV.put (r5.imp (j38 ((j50 e6).tr t67))) ⟨tq,_,_,rfl,t67 _ _ q6⟩,j4z nd5,step,by omega⟩
      ·rw[z1]
       walk_at "v"
       refine j2h (.inl q5) gay5' z1 ?_
       walk_at "v"
       refine j5c z3 rfl ?_
       walk_at "v"
       refine iteD (fun cl=>?_) (fun cl=>?_)
       ·skip
        walk_at "v"
        intro tq H6 n6 q6 e6
        walk_at "v"
        refine j4v (e6 _ _ q5) (e6 _ _ gay5') lk5 fun H7 q7 b7=>?_
        have t67:=j1q (e6 _ _ q5) b7
        exact⟨_,_,_,_,rfl,fun b o nb hb=>b7 b o nb (e6 b o (b5 b o nb hb)),q7,RowV.put (r5.imp (j38 ((j50 e6).tr t67))) ⟨tq,_,_,rfl,t67 _ _ q6⟩,j4z nd5,step,by omega⟩
       ·walk_at "v"
        have ek:addL ks' M=ks':=if_pos z4
        rw[ek] at step
        exact⟨_,_,_,_,rfl,b5,q5,r5,nd5,step,by omega⟩
     ·rintro σ H5 ⟨u3,u4,kf,ks',rfl,b5,q5,r5,nd5,m5,k5⟩
      rw[l4] at k5
      rw[l4,List.take_length] at m5
      refine⟨_,_,_,_,kf,ks',rfl,Ext.but (x3.tr e4) b5 n1,q5,r5,⟨nd5,fun M=>?_⟩,by omega⟩
      rw[m5,st.2,g4,et]
      simp only[List.mem_append,List.mem_singleton]
      exact⟨fun z=>z.elim (fun⟨b,hb,hg⟩=>⟨b,.inl hb,hg⟩) fun hg=>⟨L,.inr rfl,hg⟩,fun⟨b,hb,hg⟩=>hb.elim (fun hb=>.inl ⟨b,hb,hg⟩) fun hb=>.inr (hb ▸ hg)⟩
    | bags R =>
     obtain⟨dw,hw4⟩:=hw3
     walk_at "v"
     refine je8 ?_
     walk_at "v"
     refine⟨w,bk,R,L,x,rfl,⟨dw,hw4⟩,hbk',hLok,hwk,fun l ys Ms H4 n4 q4 r4 pw4 g4 l18 e4=>?_⟩
     have l4:=r4.length
     rw[List.length_map] at l4
     have qf4:=e4 _ _ qf
     have nlf:l≠fd:=(j05 qf n4).symm
     have hbk4:=e4 _ _ hbk'
     walk_at "v"
     refine⟨l,rfl,⟨_,SqL.of q4⟩,j1r (xs:=ys) (fun j σ H5=>∃ (u3 u4:Option V) (kf:List (List Key × V)) (ks':List (List Int)),σ=[some (.ref w),some (.ref d),some (.int x),some (.ref fd),some (.ref bk),some (.int p'),u3,u4]∧But fd H4 H5∧H5 fd=some (.dT kf)∧RowV (pv0 H5) kf ks'∧ks'.Nodup∧(∀ M,M∈ks'↔M∈ks∨M∈Ms.take j)∧ks'.length≤ks.length+j) ⟨_,_,kf,ks,rfl,fun b o _ h=>h,qf4,rf.imp (j38 (j50 e4)),st.1,fun M=>by simp,by simp⟩ (fun j σ H5 _ h=>by obtain⟨_,_,_,_,_,b5,_⟩:=h;exact SqL.of (b5 _ _ nlf q4)) ?_ ?_⟩
     ·rintro j y σ H5 hy ⟨u3,u4,kf,ks',rfl,b5,q5,r5,nd5,m5,k5⟩
      obtain⟨cy,ay,rfl,gy,gay⟩:=PairsH.get r4 j y hy
      have hj:j < Ms.length:=by have:=(List.getElem?_eq_some_iff.mp hy).1;omega
      have tk5:TK H4 H5:=j1q qf4 b5
      have em:=j5y hj
      rw[jcz hj] at gy gay
      generalize Ms.getD j []=M at *
      have gy5:=tk5 _ _ gy
      have gay5:=tk5 _ _ gay
      have gay5':H5 ay=some (.tup ((kI M).map kV)):=by rw[j13];exact gay5
      have lk5:kf.length < 1000000:=by have:=r5.length;omega
      have step:∀ N,N∈addL ks' M↔N∈ks∨N∈Ms.take (j+1):=fun N=>by rw[j5w,m5,em,or_assoc]
      have al:=j5x (ks:=ks') (L:=M)
      walk_at "v"
      refine jcv (.inl q5) gay5' ?_
      rcases r5.val M with⟨z1,z2⟩ | ⟨v,z1,⟨q2,p2,bv2,rfl,z3⟩,z4⟩
      ·rw[z1]
       walk_at "v"
       intro tq H6 n6 q6 e6
       walk_at "v"
       refine j4v (e6 _ _ q5) (e6 _ _ gay5') lk5 fun H7 q7 b7=>?_
       have t67:=j1q (e6 _ _ q5) b7
       exact⟨_,_,_,_,rfl,fun b o nb hb=>b7 b o nb (e6 b o (b5 b o nb hb)),q7,RowV.put (r5.imp (j38 ((j50 e6).tr t67))) ⟨tq,_,_,rfl,t67 _ _ q6⟩,j4z nd5,step,by omega⟩
      ·rw[z1]
       walk_at "v"
       refine j2h (.inl q5) gay5' z1 ?_
       walk_at "v"
       refine j5c z3 rfl ?_
       walk_at "v"
       refine iteD (fun cl=>?_) (fun cl=>?_)
       ·skip
        walk_at "v"
        intro tq H6 n6 q6 e6
        walk_at "v"
        refine j4v (e6 _ _ q5) (e6 _ _ gay5') lk5 fun H7 q7 b7=>?_
        have t67:=j1q (e6 _ _ q5) b7
        exact⟨_,_,_,_,rfl,fun b o nb hb=>b7 b o nb (e6 b o (b5 b o nb hb)),q7,RowV.put (r5.imp (j38 ((j50 e6).tr t67))) ⟨tq,_,_,rfl,t67 _ _ q6⟩,j4z nd5,step,by omega⟩
       ·walk_at "v"
        have ek:addL ks' M=ks':=if_pos z4
        rw[ek] at step
        exact⟨_,_,_,_,rfl,b5,q5,r5,nd5,step,by omega⟩
     ·rintro σ H5 ⟨u3,u4,kf,ks',rfl,b5,q5,r5,nd5,m5,k5⟩
      rw[l4] at k5
      rw[l4,List.take_length] at m5
      refine⟨_,_,_,_,kf,ks',rfl,Ext.but (x3.tr e4) b5 n1,q5,r5,⟨nd5,fun M=>?_⟩,by omega⟩
      rw[m5,st.2,g4,et]
      simp only[List.mem_append,List.mem_singleton]
      exact⟨fun z=>z.elim (fun⟨b,hb,hg⟩=>⟨b,.inl hb,hg⟩) fun hg=>⟨L,.inr rfl,hg⟩,fun⟨b,hb,hg⟩=>hb.elim (fun hb=>.inl ⟨b,hb,hg⟩) fun hb=>.inr (hb ▸ hg)⟩
   ·rintro σ H3 ⟨u1,u2,u3,u4,kf,ks,rfl,x3,qf,rf,st,lk⟩
    rw[hR.length,List.take_length] at st
    have lf:=rf.length
    walk_at "v"
    refine ji5 qf ?_
    walk_at "v"
    refine iteD (fun cl=>?_) (fun cl=>?_)
    ·walk_at "v"
     exact j8x T.ek_TooGreat (.inr ⟨_,rfl⟩) fun e H' _ q1 e2=>hx ks st (by omega) e H' (x3.tr e2) q1
    ·walk_at "v"
     refine jjk ?_
     walk_at "v"
     refine jbn qf fun o' H4 q4 b4=>?_
     exact hq fd o' kf ks H4 n1 q4 (rf.imp (j38 (j1q qf b4))) st (by omega) (Ext.but x3 b4 n1)
  ·refine⟨d,o,_,rfl,e1 _ _ hd,jex (Pv:=fun i σ H3=>i=0∧σ=[some (.ref w),some (.ref d),some (.str x),some (.ref fd),none,none,none,none]∧H3=H1) ⟨rfl,rfl,rfl⟩ (fun i σ H3 _ h=>by obtain⟨_,_,rfl⟩:=h;exact e1 _ _ hd) ?_ ?_⟩
   ·rintro i kv bk σ H3 hkv hbk ⟨rfl,rfl,rfl⟩
    cases (Option.some.inj hkv:_=kv)
    have hbk':=hbk
    rw[j7b] at hbk'
    walk_at "v"
    refine j2h (v:=.ref q) (.inr ⟨o,e1 _ _ hd⟩) hbk (j1b rfl) ?_
    walk_at "v"
    refine j5c (e1 _ _ hv) rfl ?_
    have hw3:=e1 _ _ hw
    walk_at "v"
    refine jb7 (jb7 ?_)
    walk_at "v"
    exact⟨w,bk,ss,x,rfl,hbk',l4,hx.ext e1⟩
   ·rintro σ H3 ⟨h,_⟩
    exact absurd h (by simp)
def j48 (a:Adr):Sp:=fun vs H Q E=>∃ (w sp wl:Addr),vs=[.ref w,.ref sp,.ref wl] ∧
 ((∃ (g:G65) (st ws:List Int) (n:Nat),g.at_ a H w∧H sp=some (.tup (st.map V.int))∧H wl=some (.lst (ws.map V.int))∧g.ok n st∧n+ws.length≤40∧(∀ x∈ws,g.okW x) ∧
    (∀ l zs Rs H',H l=none→H' l=some (.lst zs)→RowsV H' zs Rs→Fit g st ws Rs→Ext H H'→Q (.ref l) H') ∧
    (∀ j Rs,Big g st ws j Rs→Grt a H E)) ∨
   (∃ (ss ws:List Str),ShAt a H w∧H sp=some (.tup (ss.map V.str))∧H wl=some (.lst (ws.map V.str))∧4 < ss.length ∧
    (ws=[]→∀ l d o q H',H l=none→H' l=some (.lst [.ref d])→H' d=some (.frz o (.dT [(ss.map Sum.inr,.ref q)]))→H' q=some (.tup [.int 0,.non])→Ext H H'→Q (.ref l) H') ∧
    (ws≠[]→Grt a H E)))
theorem j22 (T:Txt K mg a):FnOk P w K mg base (CXU P w) 6 a.f_z8 a.d_z8 ["world","start","wishes"] (j48 a):=by
 refine T.F_z8.okX jmg (fun vs H Q E h=>?_) (fun cdv A outer s H vs Q E hr h=>?_)
 ·obtain⟨w,sp,wl,rfl,h⟩:=h
  rfl
 ·obtain⟨w,sp,wl,rfl,h⟩:=h
  have zc_Bags:=T.cl_Bags
  have zn_Bags_room:=T.na_Bags_room
  have zc_Line:=T.cl_Line
  have zn_Line_many:=T.na_Line_many
  have zc_Shelf:=T.cl_Shelf
  have zn_Shelf_things:=T.na_Shelf_things
  refine⟨_,(j03 (j0n (i:=3) jmg.nd rfl (by first | exact Or.inl rfl | exact Or.inr rfl) (j1k (j00 (jbm (j9t hr (pv 1) (j1v (j00 j09 (j00 j3r j02))))) j02)))
   (j03 (j3s (jjf ja8) rfl (j1l (pv 2)) (j0e (i:=4) jmg.nd rfl (by first | exact Or.inl rfl | exact Or.inr rfl)) (j06 (j3e (jfj PySem.F.plainAttrs_list PySem.F.slot_list_append PySem.F.type_list_append j17 (pv 3) (j00 (j0c (ja4 T) (hr.mono (by decide)) (by rfl) T.m_z23 T.F_z23.kp T.b_z23 .nil (jjg ja8) (j00 (pv 0) (j00 (j2o oIx (pv 3) (jjv jd8 j09) (fun _ _=>rfl)) (j00 (pv 4) j02)))) j02)))))
   (j06 (j0d (pv 3))))),?_⟩
  obtain⟨ks,hks⟩:∃ ks:List Key,H sp=some (.tup (ks.map kV)):=by
   rcases h with⟨_,st,_,_,_,hsp,_⟩ | ⟨ss,_,_,hsp,_⟩
   ·exact⟨kI st,by rw[j13];exact hsp⟩
   ·exact⟨ss.map Sum.inr,by rw[j7b];exact hsp⟩
  walk_at "v"
  refine jjk ?_
  refine jcw fun fd H1 n1 q1 e1=>?_
  walk_at "v"
  intro tq H2 n2 q2 e2
  refine j9u (ks:=ks) (e2 _ _ q1) ((e1.tr e2) _ _ hks) fun H3 q3 b3=>?_
  refine jbn q3 fun o H4 q4 b4=>?_
  have nf:H fd=none:=n1
  have x2:Ext H H2:=e1.tr e2
  have x4:Ext H H4:=Ext.but (Ext.but x2 b3 nf) b4 nf
  have q24:H4 tq=some (.tup [.int 0,.non]):=j1q q3 b4 _ _ (j1q (e2 _ _ q1) b3 _ _ q2)
  walk_at "v"
  intro l H5 n5 q5 e5
  have nl:H l=none:=x4.free n5
  have x5:=x4.tr e5
  walk_at "v"
  rcases h with⟨g,st,ws,n,hw,hsp,hwl,hok,hn,hwk,hq,hx⟩ | ⟨ss,ws,⟨dw,m,hw⟩,hsp,hwl,l4,hq,hx⟩
  ·obtain rfl:ks=kI st:=ja2 hks (by rw[j13];exact hsp)
   refine⟨wl,rfl,⟨_,SqL.of (x5 _ _ hwl)⟩,j1r (xs:=ws.map V.int) (fun i σ H6=>∃ (u:Option V) (zs:List V) (Rs:List (List (List Int))),σ=[some (.ref w),some (.ref sp),some (.ref wl),some (.ref l),u]∧Ext H H6∧H6 l=some (.lst zs)∧RowsV H6 zs Rs∧Chn g [st] (ws.take i) Rs∧∀ k,k≤i→(Rs.getD k []).length≤60) ⟨none,_,[[st]],rfl,x5,q5,.cons (e5 _ _ q4) ⟨rfl,fun kv hkv=>?_⟩ .nil,Chn.nil,fun k hk=>?_⟩ (fun i σ H6 _ h=>by obtain⟨_,_,_,_,x,_⟩:=h;exact SqL.of (x _ _ hwl)) ?_ ?_⟩
   ·rw[List.mem_singleton.mp hkv]
    exact⟨tq,0,.non,rfl,e5 _ _ q24⟩
   ·obtain rfl:k=0:=by omega
    show 1≤60
    decide
   ·rintro i y σ H6 hy ⟨u,zs,Rs,rfl,x6,q6,r6,c6,s6⟩
    obtain⟨x,ex,rfl⟩:=j3m hy
    have hi:i < ws.length:=(List.getElem?_eq_some_iff.mp ex).1
    have lt:(ws.take i).length=i:=by rw[List.length_take];omega
    have lz:=r6.length
    have lR:=c6.ln
    rw[lt] at lR
    have ez:zs[zs.length-1]?=some (zs[zs.length-1]'(by omega)):=List.getElem?_eq_getElem _
    obtain⟨d,od,kvs,ed,hd,hrd⟩:=r6.at _ _ ez
    rw[ed] at ez
    rw[show zs.length-1=i by omega] at hrd
    have okA:=c6.ok (n:=n) (fun L hL=>by rw[List.mem_singleton.mp hL];exact hok) (fun w hw=>hwk w (List.mem_of_mem_take hw)) i (by omega)
    have et:ws.take (i+1)=ws.take i++[x]:=by rw[List.take_add_one,ex];rfl
    walk_at "v"
    refine jat q6 (j21 (by omega) ez) ?_
    walk_at "v"
    refine⟨w,d,od,kvs,.int x,rfl,hd,.inl ⟨g,x,_,rfl,G65.mono x6 hw,hrd,s6 i (Nat.le_refl _),fun L hL=>G65.okm (okA L hL) (by omega),hwk x (List.mem_of_getElem? ex),fun d' o' kvs' B H7 n7 q7 r7 s7 l7 e7=>?_,fun B s7 l7=>?_⟩⟩
    ·have q67:=e7 _ _ q6
     walk_at "v"
     refine j2r q67 (by omega) fun H8 q8 b8=>?_
     have ndl:d'≠l:=(j05 q6 n7).symm
     have c7:=c6.snoc (w:=x) (C:=B) (by rw[lt];exact s7)
     refine⟨_,_,Rs++[B],rfl,Ext.but (x6.tr e7) b8 nl,q8,RowsV.snoc (b8 _ _ ndl q7) (r7.imp (j38 (j2j q67 b8))) (RowsV.butL q67 b8 (r6.ext e7)),by rw[et];exact c7,fun k hk=>?_⟩
     by_cases z:k≤i
     ·rw[j4y (by omega)]
      exact s6 k z
     ·obtain rfl:k=i+1:=by omega
      rw[← lR,j2i]
      exact l7
    ·refine (hx (i+1) (Rs++[B]) ⟨by omega,by rw[et];exact c6.snoc (by rw[lt];exact s7),?_⟩).ext x6
     rw[← lR,j2i]
     exact l7
   ·rintro σ H6 ⟨u,zs,Rs,rfl,x6,q6,r6,c6,s6⟩
    rw[List.length_map] at s6
    rw[List.length_map,List.take_length] at c6
    walk_at "v"
    exact hq l zs Rs H6 nl q6 r6 ⟨c6,s6⟩ x6
  ·obtain rfl:ks=ss.map Sum.inr:=ja2 hks (by rw[j7b];exact hsp)
   cases ws with
   | nil =>
    refine⟨wl,rfl,⟨_,SqL.of (x5 _ _ hwl)⟩,j1r (xs:=[]) (fun i σ H6=>(∃ u,σ=[some (.ref w),some (.ref sp),some (.ref wl),some (.ref l),u])∧H6=H5) ⟨⟨none,rfl⟩,rfl⟩ (fun i σ H6 _ h=>by obtain⟨_,rfl⟩:=h;exact SqL.of (x5 _ _ hwl)) ?_ ?_⟩
    ·rintro i y σ H6 hy _
     simp at hy
    ·rintro σ H6 ⟨⟨u,rfl⟩,rfl⟩
     walk_at "v"
     exact hq rfl l fd o tq _ nl q5 (e5 _ _ q4) (e5 _ _ q24) x5
   | cons x r =>
    refine⟨wl,rfl,⟨_,SqL.of (x5 _ _ hwl)⟩,j1r (xs:=(x :: r).map V.str) (fun i σ H6=>i=0∧(∃ u,σ=[some (.ref w),some (.ref sp),some (.ref wl),some (.ref l),u])∧H6=H5) ⟨rfl,⟨none,rfl⟩,rfl⟩ (fun i σ H6 _ h=>by obtain⟨_,_,rfl⟩:=h;exact SqL.of (x5 _ _ hwl)) ?_ ?_⟩
    ·rintro i y σ H6 hy ⟨rfl,⟨u,rfl⟩,rfl⟩
     cases (Option.some.inj hy:V.str x=y)
     walk_at "v"
     refine jat q5 (j21 (by simp) rfl) ?_
     walk_at "v"
     exact⟨w,fd,o,_,.str x,rfl,e5 _ _ q4,.inr ⟨.ref tq,ss,x,rfl,⟨dw,m,x5 _ _ hw⟩,rfl,⟨tq,0,.non,rfl,e5 _ _ q24⟩,l4,(hx (by simp)).ext x5⟩⟩
    ·rintro σ H6 ⟨h,_⟩
     exact absurd h (by simp)
def j33:Sp:=fun vs H Q _=>∃ (d:Addr) (o:Obj) (kvs:List (List Key × V)),vs=[.ref d]∧H d=some (.frz o (.dT kvs)) ∧
 ((∃ A:List (List Int),RowV (pv0 H) kvs A∧A.length≤60∧∀ l ys H',H l=none→H' l=some (.lst ys)→ys.length=A.length→Ext H H'→Q (.ref l) H') ∨
   (∃ (ss:List Str) (q:Addr) (bv:V),kvs=[(ss.map Sum.inr,.ref q)]∧H q=some (.tup [.int 0,bv])∧∀ l c b H',H l=none→H' l=some (.lst [.ref c])→H' c=some (.tup [.ref b,.int 0])→H' b=some (.tup (ss.map V.str))→Ext H H'→Q (.ref l) H'))
theorem j34 (T:Txt K mg a):FnOk P w K mg base (CXU P w) 1 a.f_z2 a.d_z2 ["row"] (j33):=by
 refine T.F_z2.okU sc_z2 (fun vs H Q E h=>?_) (fun cdv A outer s H vs Q E hr h=>?_)
 ·obtain⟨d,o,kvs,rfl,hd,h⟩:=h
  rfl
 ·obtain⟨d,o,kvs,rfl,hd,h⟩:=h
  refine⟨_,(j06 (j0d (j07 (ji9 hr) (by rfl) T.n_sorted PyProof.Rows.boot_sorted (j00 (j2g (["state"]:List Str) (["row"]:List Str) [0] rfl ⟨rfl,by decide +kernel,by decide +kernel,by rfl,⟨⟨rfl,by first | exact Or.inl rfl | exact Or.inr rfl,by first | exact Or.inl rfl | exact Or.inr rfl⟩,trivial⟩⟩ (jm9 (pv 0)) (fun _ _ _ _=>⟨(j0e (i:=0) (by show ((["state"]:List Str)++(["row"]:List Str)).Nodup;decide +kernel) rfl (by first | exact Or.inl rfl | exact Or.inr rfl)),(show PTs _ [] [] from trivial),(j1v (j00 (pv 0) (j00 (j2o oIx (j2a hr (pv 1) (pv 0) (fun _ _=>rfl)) j09 (fun _ _=>rfl)) j02)))⟩)) j02)))),?_⟩
  walk_at "v"
  refine jma ?_
  walk_at "v"
  rcases h with⟨A,hR,hA,hq⟩ | ⟨ss,q,bv,rfl,hv,hq⟩
  ·have lr:=hR.length
   refine⟨d,o,kvs,rfl,hd,fun acc hn _ _ _ _=>jcu hd (by omega) hn (fun j ys H2=>∃ Ks:List (List Int × Int),PairsH H2 ys Ks∧Ks.length=j) ⟨[],.nil,rfl⟩ (fun _ _ _ _ k ⟨Ks,h1,h2⟩=>⟨Ks,PairsH.keep k h1,h2⟩) (fun j ys H' _ ⟨Ks,h1,h2⟩=>by have:=h1.length;omega) ?_ ?_⟩
   ·rintro j kv bk ys H2 hkv hbk e ⟨Ks,h1,h2⟩ Y N hY hN
    obtain⟨L,eL,ek,_⟩:=hR.at hkv
    rw[ek] at hbk
    obtain⟨v,v1,⟨q',p',bv',rfl,v3⟩,_⟩:=(hR.val L).resolve_left (fun z=>z.2 (List.mem_of_getElem? eL))
    walk_at "v"
    refine j2h (.inr ⟨o,e _ _ hd⟩) hbk v1 ?_
    rw[j13] at hbk
    walk_at "v"
    refine j5c (e _ _ v3) rfl ?_
    walk_at "v"
    intro t H3 n3 q3 e3
    exact hY _ _ e3 ⟨Ks++[(L,p')],PairsH.snoc q3 (e3 _ _ hbk) (h1.mono e3),by simp[h2]⟩
   ·rintro ys H2 e2 ha ⟨Ks,h1,h2⟩
    have ly:=h1.length
    walk_at "v"
    refine .inl (jhv ha h1 (by omega) fun l H3 vs' Ks' n3 q3 e3 h3 pm _=>?_)
    exact hq l vs' H3 (e2.free n3) q3 (by have:=h3.length;have:=pm.length_eq;omega) (e2.tr e3)
  ·refine⟨d,o,_,rfl,hd,fun acc hn _ _ _ _=>jcu hd (by simp) hn (fun j ys H2=>ys.length≤j∧(j=1→∃ c b,ys=[.ref c]∧H2 c=some (.tup [.ref b,.int 0])∧H2 b=some (.tup (ss.map V.str)))) ⟨Nat.le_refl _,fun h=>by cases h⟩ (fun _ _ _ _ k ⟨h1,h2⟩=>⟨h1,fun h=>by obtain⟨c,b,k1,k2,k3⟩:=h2 h;exact⟨c,b,k1,k _ _ k2 rfl,k _ _ k3 rfl⟩⟩) (fun j ys H' _ h=>h.1) ?_ ?_⟩
   ·rintro j kv bk ys H2 hkv hbk e ⟨h1,_⟩ Y N hY hN
    obtain rfl:j=0:=by have:=(List.getElem?_eq_some_iff.mp hkv).1;simpa using this
    obtain rfl:ys=[]:=List.length_eq_zero_iff.mp (by omega)
    cases (Option.some.inj hkv:_=kv)
    walk_at "v"
    refine j2h (v:=.ref q) (.inr ⟨o,e _ _ hd⟩) hbk (j1b rfl) ?_
    rw[j7b] at hbk
    walk_at "v"
    refine j5c (e _ _ hv) rfl ?_
    walk_at "v"
    intro t H3 n3 q3 e3
    exact hY _ _ e3 ⟨Nat.le_refl _,fun _=>⟨t,bk,rfl,q3,e3 _ _ hbk⟩⟩
   ·rintro ys H2 e2 ha ⟨h1,h2⟩
    obtain⟨c,b,rfl,k2,k3⟩:=h2 rfl
    walk_at "v"
    exact .inr (ji7 ha (by simp) fun l H3 n3 q3 e3=>hq l c b H3 (e2.free n3) q3 (e3 _ _ k2) (e3 _ _ k3) (e2.tr e3))
def ja5 (a:Adr):Sp:=fun vs H Q E=>∃ (w sp wl:Addr),vs=[.ref w,.ref sp,.ref wl] ∧
 ((∃ (g:G65) (st ws:List Int) (n:Nat),g.at_ a H w∧H sp=some (.tup (st.map V.int))∧H wl=some (.lst (ws.map V.int))∧g.ok n st∧n+ws.length≤40∧(∀ x∈ws,g.okW x) ∧
    ((∃ Rs,Fit g st ws Rs∧∀ l zs H',H l=none→H' l=some (.lst zs)→LensV H' zs (Rs.map List.length)→Ext H H'→Q (.ref l) H') ∨
   (∃ j Rs,Big g st ws j Rs∧Grt a H E))) ∨
   (∃ (ss ws:List Str),ShAt a H w∧H sp=some (.tup (ss.map V.str))∧H wl=some (.lst (ws.map V.str))∧4 < ss.length ∧
    ((ws=[]∧∀ l p c b H',H l=none→H' l=some (.lst [.ref p])→H' p=some (.lst [.ref c])→H' c=some (.tup [.ref b,.int 0])→H' b=some (.tup (ss.map V.str))→Ext H H'→Q (.ref l) H') ∨
   (ws≠[]∧Grt a H E))))
theorem j5z (T:Txt K mg a):FnOk P w K mg base (CXU P w) 7 a.f_z26 a.d_z26 ["world","start","wishes"] (ja5 a):=by
 refine T.F_z26.okX sc_z26 (fun vs H Q E h=>?_) (fun cdv A outer s H vs Q E hr h=>?_)
 ·obtain⟨w,sp,wl,rfl,h⟩:=h
  rfl
 ·obtain⟨w,sp,wl,rfl,h⟩:=h
  refine⟨_,(j06 (j0d (j2g (["row"]:List Str) ([]:List Str) [] rfl ⟨rfl,by decide +kernel,by decide +kernel,by rfl,trivial⟩ (j1l (j0c (j22 T) (hr.mono (by decide)) (by rfl) T.m_z8 T.F_z8.kp T.b_z8 .nil (jjg ja8) (j00 (pv 0) (j00 (pv 1) (j00 (pv 2) j02))))) (fun _ _ _ _=>⟨(j0e (i:=0) (by show ((["row"]:List Str)++([]:List Str)).Nodup;decide +kernel) rfl (by first | exact Or.inl rfl | exact Or.inr rfl)),(show PTs _ [] [] from trivial),(j0c (j34 T) (hr.mono (by decide)) (by rfl) T.m_z2 T.F_z2.kp T.b_z2 .nil j0s (j00 (pv 0) j02))⟩)))),?_⟩
  walk_at "v"
  rcases h with⟨g,st,ws,n,hw,hsp,hwl,hok,hn,hwk,hh⟩ | ⟨ss,ws,hw,hsp,hwl,l4,hh⟩
  ·refine⟨w,sp,wl,rfl,.inl ⟨g,st,ws,n,hw,hsp,hwl,hok,hn,hwk,fun l zs Rs H1 n1 q1 r1 f1 e1=>?_,fun j Rs hb=>?_⟩⟩
   ·rcases hh with⟨Ts,ft,hq⟩ | ⟨j,Ts,bg,_⟩
    ·have lz:=r1.length
     have lR:=f1.1.ln
     rw[f1.len ft |>.symm] at hq
     refine⟨l,rfl,⟨_,SqL.of q1⟩,fun acc hn _ _ _ _=>j0x (SqL.of q1) (by omega) hn (fun j ys H2=>ys.length=j∧∀ i v,ys[i]?=some v→∃ p xs,v=.ref p∧H2 p=some (.lst xs)∧xs.length=(Rs.getD i []).length) ⟨rfl,fun i v h=>by simp at h⟩ (fun _ _ _ _ k ⟨h1,h2⟩=>⟨h1,fun i v h=>by obtain⟨p,xs,k1,k2,k3⟩:=h2 i v h;exact⟨p,xs,k1,k _ _ k2 rfl,k3⟩⟩) (fun j ys H' _ h=>Nat.le_of_eq h.1) ?_ ?_⟩
     ·rintro j y ys H2 hy e ⟨h1,h2⟩ Y N hY hN
      obtain⟨d,o,kvs,rfl,hd,hR⟩:=r1.at j y hy
      have hj:j < zs.length:=(List.getElem?_eq_some_iff.mp hy).1
      walk_at "v"
      refine⟨d,o,kvs,rfl,e _ _ hd,.inl ⟨_,hR.imp (j38 (j50 e)),f1.2 j (by omega),fun p xs H3 n3 q3 l3 e3=>?_⟩⟩
      refine hY _ _ e3 ⟨by simp[h1],fun i v h=>?_⟩
      by_cases z:i < ys.length
      ·rw[List.getElem?_append_left z] at h
       obtain⟨p',xs',k1,k2,k3⟩:=h2 i v h
       exact⟨p',xs',k1,e3 _ _ k2,k3⟩
      ·obtain rfl:i=ys.length:=by have:=(List.getElem?_eq_some_iff.mp h).1;simp at this;omega
       rw[List.getElem?_append_right (Nat.le_refl _),Nat.sub_self] at h
       cases (Option.some.inj h:V.ref p=v)
       exact⟨p,xs,rfl,q3,by rw[h1];exact l3⟩
     ·rintro ys H2 e2 ha ⟨h1,h2⟩
      refine hq acc ys H2 (e1.free hn) ha ⟨by rw[List.length_map];omega,fun i v h=>?_⟩ (e1.tr e2)
      obtain⟨p,xs,k1,k2,k3⟩:=h2 i v h
      have hi:i < Rs.length:=by have:=(List.getElem?_eq_some_iff.mp h).1;omega
      refine⟨p,xs,k1,k2,k3.trans ?_⟩
      rw[List.getD_eq_getElem?_getD,List.getD_eq_getElem?_getD,List.getElem?_map,List.getElem?_eq_getElem hi]
      rfl
    ·exact (f1.big bg).elim
   ·rcases hh with⟨Ts,ft,hq⟩ | ⟨_,_,_,hg⟩
    ·exact (ft.big hb).elim
    ·exact hg
  ·refine⟨w,sp,wl,rfl,.inr ⟨ss,ws,hw,hsp,hwl,l4,fun z l d o q H1 n1 q1 hd hv e1=>?_,fun z=>?_⟩⟩
   ·rcases hh with⟨_,hq⟩ | ⟨z',_⟩
    ·refine⟨l,rfl,⟨_,SqL.of q1⟩,fun acc hn _ _ _ _=>j0x (SqL.of q1) (by simp) hn (fun j ys H2=>ys.length≤j∧(j=1→∃ p c b,ys=[.ref p]∧H2 p=some (.lst [.ref c])∧H2 c=some (.tup [.ref b,.int 0])∧H2 b=some (.tup (ss.map V.str)))) ⟨Nat.le_refl _,fun h=>by cases h⟩ (fun _ _ _ _ k ⟨h1,h2⟩=>⟨h1,fun h=>by obtain⟨p,c,b,k1,k2,k3,k4⟩:=h2 h;exact⟨p,c,b,k1,k _ _ k2 rfl,k _ _ k3 rfl,k _ _ k4 rfl⟩⟩) (fun j ys H' _ h=>h.1) ?_ ?_⟩
     ·rintro j y ys H2 hy e ⟨h1,_⟩ Y N hY hN
      obtain rfl:j=0:=by have:=(List.getElem?_eq_some_iff.mp hy).1;simpa using this
      obtain rfl:ys=[]:=List.length_eq_zero_iff.mp (by omega)
      cases (Option.some.inj hy:V.ref d=y)
      walk_at "v"
      exact⟨d,o,_,rfl,e _ _ hd,.inr ⟨ss,q,.non,rfl,e _ _ hv,fun p c b H3 n3 q3 k3 k4 e3=>hY _ _ e3 ⟨Nat.le_refl _,fun _=>⟨p,c,b,rfl,q3,k3,k4⟩⟩⟩⟩
     ·rintro ys H2 e2 ha ⟨h1,h2⟩
      obtain⟨p,c,b,rfl,k2,k3,k4⟩:=h2 rfl
      exact hq acc p c b H2 (e1.free hn) ha k2 k3 k4 (e1.tr e2)
    ·exact (z' z).elim
   ·rcases hh with⟨z',_⟩ | ⟨_,hg⟩
    ·exact (z z').elim
    ·exact hg
abbrev TabB (a:Adr) (H:Hp):Prop:=TabR H a.tb_z27 jie jif
def jd0 (a:Adr):Sp:=fun vs H Q E=>∃ (w sp wl:Addr),vs=[.ref w,.ref sp,.ref wl] ∧
 ((∃ (g:G65) (st ws:List Int) (n:Nat),g.at_ a H w∧H sp=some (.tup (st.map V.int))∧H wl=some (.lst (ws.map V.int))∧g.ok n st∧n+ws.length≤40∧(∀ x∈ws,g.okW x)∧∃ j Rs,Big g st ws j Rs∧Grt a H E) ∨
   (∃ (ss ws:List Str),ShAt a H w∧H sp=some (.tup (ss.map V.str))∧H wl=some (.lst (ws.map V.str))∧4 < ss.length ∧
    ((ws=[]∧TabB a H∧∀ tp yl H',H' tp=some (.tup [.int 0,.ref yl])→H' yl=some (.lst [])→Q (.ref tp) H') ∨
   (ws≠[]∧Grt a H E))))
theorem jd1 (T:Txt K mg a):FnOk P w K mg base (CXU P w) 7 a.f_z27 a.d_z27 ["world","start","wishes"] (jd0 a):=by
 refine T.F_z27.okLX T.ck_z27 j4w (fun vs H Q E h=>?_) (fun A outer s H vs Q E hr h=>?_)
 ·obtain⟨w,sp,wl,rfl,h⟩:=h
  rfl
 ·obtain⟨w,sp,wl,rfl,h⟩:=h
  have zc_Bags:=T.cl_Bags
  have zn_Bags_room:=T.na_Bags_room
  have zc_Line:=T.cl_Line
  have zn_Line_many:=T.na_Line_many
  have zc_Shelf:=T.cl_Shelf
  have zn_Shelf_things:=T.na_Shelf_things
  refine⟨_,(j03 (j0n (i:=3) j4w.nd rfl (by first | exact Or.inl rfl | exact Or.inr rfl) (j0c (j22 T) (hr.mono (by decide)) (by rfl) T.m_z8 T.F_z8.kp T.b_z8 .nil (jjg ja8) (j00 (pv 0) (j00 (pv 1) (j00 (pv 2) j02)))))
   (j03 (j0n (i:=4) j4w.nd rfl (by first | exact Or.inl rfl | exact Or.inr rfl) (j2o oIx (pv 3) (jjv jd8 j09) (fun _ _=>rfl)))
   (j03 (j0n (i:=5) j4w.nd rfl (by first | exact Or.inl rfl | exact Or.inr rfl) (j9s (k:=0) (c:=a.ck_z27) (P:=a.tb_z27) (x:="some") (fr:=["last"]) (js:=[4]) (κ:=Int) (KR:=KRi) (lt:=lti) (fun _ kf=>j9l kf) (hr.mono (by decide)) (by rfl) T.n_min (j00 (j07 (jia rfl) (by rfl) T.n_sorted PyProof.Rows.boot_sorted (j00 (pv 4) j02)) j02) rfl T.hd_best rfl ⟨rfl,rfl,rfl,by decide +kernel,rfl,by rfl,⟨⟨rfl,by first | exact Or.inl rfl | exact Or.inr rfl,by first | exact Or.inl rfl | exact Or.inr rfl⟩,trivial⟩⟩ (fun _ _ _ _=>rfl) (fun _ _ _ _ _=>(j2o oIx (j2a (Room.lam (j:=0) (by decide) hr) (pv 1) (pv 0) (fun _ _=>rfl)) j09 (fun _ _=>rfl)))))
   (j03 (j0n (i:=6) j4w.nd rfl (by first | exact Or.inl rfl | exact Or.inr rfl) (j2o oIx (j2a hr (pv 4) (pv 5) (fun _ _=>rfl)) j09 (fun _ _=>rfl)))
   (j03 (j0n (i:=7) j4w.nd rfl (by first | exact Or.inl rfl | exact Or.inr rfl) (j1k j02))
   (j03 (j3s (jjf ja8) rfl (pi_rev (by rfl) T.n_reversed (j00 (j16 oSl (pv 3) (j1x j09) j1w) j02)) (j0e (i:=8) j4w.nd rfl (by first | exact Or.inl rfl | exact Or.inr rfl)) (j03 (j3e (jfj PySem.F.plainAttrs_list PySem.F.slot_list_append PySem.F.type_list_append j17 (pv 7) (j00 (pv 5) j02)))
   (j06 (j0n (i:=5) j4w.nd rfl (by first | exact Or.inl rfl | exact Or.inr rfl) (j2o oIx (j2a hr (pv 8) (pv 5) (fun _ _=>rfl)) j09 (fun _ _=>rfl))))))
   (j06 (j0d (j1v (j00 (pv 6) (j00 (j9q rfl (by rfl) T.n_list (by rfl) T.n_reversed (j00 (pv 7) j02)) j02))))))))))),?_⟩
  walk_at "v"
  rcases h with⟨g,st,ws,n,hw,hsp,hwl,hok,hn,hwk,j,Ts,bg,hg⟩ | ⟨ss,ws,hw,hsp,hwl,l4,hh⟩
  ·exact⟨w,sp,wl,rfl,.inl ⟨g,st,ws,n,hw,hsp,hwl,hok,hn,hwk,fun l zs Rs H1 n1 q1 r1 f1 e1=>(f1.big bg).elim,fun _ _ _=>hg⟩⟩
  refine⟨w,sp,wl,rfl,.inr ⟨ss,ws,hw,hsp,hwl,l4,fun z l d o q H1 n1 q1 hd hv e1=>?_,fun z=>?_⟩⟩
  ·rcases hh with⟨_,hT,hq⟩ | ⟨z',_⟩
   ·have hT1:=TabR.ext e1 hT
    walk_at "v"
    refine jat q1 (j21 (by simp) rfl) ?_
    walk_at "v"
    unfold ji3
    walk_at "v"
    refine jf6 hd fun ls b H2 n2 q2 hb e2=>?_
    refine⟨ls,[.ref b],false,fun _=>0,rfl,q2,by simp,TabR.ext e2 hT1,fun i x hx pins f c s' Hc H3 e3=>?_,fun x H3 hx e3 b3 hT3=>?_⟩
    ·obtain rfl:x=.ref b:=List.mem_singleton.mp (List.mem_of_getElem? hx)
     walk_at "v"
     refine j2h (v:=.ref q) (.inr ⟨o,e3 _ _ (e2 _ _ hd) rfl⟩) (e3 _ _ (e2 _ _ hb) rfl) (j1b rfl) ?_
     walk_at "v"
     refine j5c (e3 _ _ (e2 _ _ hv) rfl) rfl ?_
     walk_at "v"
     exact⟨rfl,Ext.rfl'⟩
    ·obtain rfl:x=.ref b:=List.mem_singleton.mp (List.mem_of_getElem? hx)
     have hd3:=e3 _ _ (e2 _ _ hd) rfl
     have hb3:=e3 _ _ (e2 _ _ hb) rfl
     have hv3:=e3 _ _ (e2 _ _ hv) rfl
     have ql3:=e3 _ _ (e2 _ _ q1) rfl
     walk_at "v"
     refine j2h (v:=.ref q) (.inr ⟨o,hd3⟩) hb3 (j1b rfl) ?_
     walk_at "v"
     refine j5c hv3 rfl ?_
     walk_at "v"
     intro wy H4 n4 q4 e4
     walk_at "v"
     refine r_irev ?_
     walk_at "v"
     refine r_slL (e4 _ _ ql3) fun sl H5 n5 q5 e5=>?_
     rw[jii _ (by simp)] at q5
     have q45:=e5 _ _ q4
     walk_at "v"
     refine⟨sl,[],rfl,q5,ji1 (xs:=[]) (fun i σ H6=>(∃ u,σ=[some (.ref w),some (.ref sp),some (.ref wl),some (.ref l),some (.ref d),some (.ref b),some (.int 0),some (.ref wy),u])∧H6=H5) ⟨⟨none,rfl⟩,rfl⟩ (fun i σ H6 _ h=>by obtain⟨_,rfl⟩:=h;exact q5) ?_ ?_⟩
     ·rintro i y σ H6 hi
      exact absurd hi (by simp)
     ·rintro σ H6 ⟨⟨u,rfl⟩,rfl⟩
      walk_at "v"
      refine jbp q45 fun yl H7 n7 q7 e7=>?_
      walk_at "v"
      intro tp H8 n8 q8 e8
      exact hq tp yl H8 q8 (e8 _ _ q7)
   ·exact (z' z).elim
  ·rcases hh with⟨z',_⟩ | ⟨_,hg⟩
   ·exact (z z').elim
   ·exact hg
def TooG (a:Adr) (H:Hp) (w sp:Addr) (vs:List V):Prop :=
 (∃ (g:G65) (st ws:List Int) (n j:Nat) (Rs:List (List (List Int))),vs=ws.map V.int∧g.at_ a H w∧H sp=some (.tup (st.map V.int))∧g.ok n st∧n+ws.length≤40∧(∀ x∈ws,g.okW x)∧Big g st ws j Rs) ∨
 (∃ (ss ws:List Str),vs=ws.map V.str∧ShAt a H w∧H sp=some (.tup (ss.map V.str))∧4 < ss.length∧ws≠[])
theorem TooG.ext {a:Adr}{H H':Hp}{w sp:Addr}{vs:List V} (e:Ext H H') (h:TooG a H w sp vs):TooG a H' w sp vs:=by
 rcases h with⟨g,st,ws,n,j,Rs,h1,h2,h3,h4⟩ | ⟨ss,ws,h1,⟨dw,m,h2⟩,h3,h4⟩
 ·exact .inl ⟨g,st,ws,n,j,Rs,h1,G65.mono e h2,e _ _ h3,h4⟩
 ·exact .inr ⟨ss,ws,h1,⟨dw,m,e _ _ h2⟩,e _ _ h3,h4⟩
theorem TooG.table {a:Adr}{H:Hp}{w sp wl:Addr}{vs:List V}{Q:VK}{E:XK} (h:TooG a H w sp vs) (hl:H wl=some (.lst vs)) (g:Grt a H E):ja5 a [.ref w,.ref sp,.ref wl] H Q E:=by
 refine⟨w,sp,wl,rfl,?_⟩
 rcases h with⟨g',st,ws,n,j,Rs,rfl,h2,h3,h4,h5,h6,h7⟩ | ⟨ss,ws,rfl,h2,h3,h4,h5⟩
 ·exact .inl ⟨g',st,ws,n,h2,h3,hl,h4,h5,h6,.inr ⟨j,Rs,h7,g⟩⟩
 ·exact .inr ⟨ss,ws,h2,h3,hl,h4,.inr ⟨h5,g⟩⟩
theorem TooG.best {a:Adr}{H:Hp}{w sp wl:Addr}{vs:List V}{Q:VK}{E:XK} (h:TooG a H w sp vs) (hl:H wl=some (.lst vs)) (g:Grt a H E):jd0 a [.ref w,.ref sp,.ref wl] H Q E:=by
 refine⟨w,sp,wl,rfl,?_⟩
 rcases h with⟨g',st,ws,n,j,Rs,rfl,h2,h3,h4,h5,h6,h7⟩ | ⟨ss,ws,rfl,h2,h3,h4,h5⟩
 ·exact .inl ⟨g',st,ws,n,h2,h3,hl,h4,h5,h6,j,Rs,h7,g⟩
 ·exact .inr ⟨ss,ws,h2,h3,hl,h4,.inr ⟨h5,g⟩⟩
def j49 (a:Adr):Sp:=fun us H Q _=>∃ (w sp wl:Addr) (bb:Bool) (vs:List V),us=[.ref w,.ref sp,.ref wl,.bl bb]∧H wl=some (.lst vs)∧TooG a H w sp vs∧∀ H',Ext H H'→Q (.bl true) H'
theorem j23 (T:Txt K mg a):FnOk P w K mg base (CXU P w) 8 a.f_z7 a.d_z7 ["_law_world","_law_start","_law_wishes","_law_by_best"] (j49 a):=by
 refine T.F_z7.okU jfn (fun vs H Q E h=>?_) (fun cdv A outer s H vs Q E hr h=>?_)
 ·obtain⟨w,sp,wl,bb,vs,rfl,hwl,hT,hq⟩:=h
  rfl
 ·obtain⟨w,sp,wl,bb,vs,rfl,hwl,hT,hq⟩:=h
  have zc_Bags:=T.cl_Bags
  have zn_Bags_room:=T.na_Bags_room
  have zc_Line:=T.cl_Line
  have zn_Line_many:=T.na_Line_many
  have zc_Shelf:=T.cl_Shelf
  have zn_Shelf_things:=T.na_Shelf_things
  refine⟨_,(j03 (j0n (i:=4) jfn.nd rfl (by first | exact Or.inl rfl | exact Or.inr rfl) jad)
   (j03 (ps_try (i:=5) (L:=a.c_LateError) ⟨rfl,rfl,rfl⟩ jfn.nd rfl rfl (by rfl) T.m_LateError (j5q (psx_if (ptT (pv 3) (fun _=>rfl)) (j5q (j8w (j9y (jd1 T) (hr.mono (by decide)) (by rfl) T.m_z27 T.F_z27.kp T.b_z27 .nil (j00 (pv 0) (j00 (pv 1) (j00 (pv 2) j02)))))) (j5q (j8w (j9y (j5z T) (hr.mono (by decide)) (by rfl) T.m_z26 T.F_z26.kp T.b_z26 .nil (j00 (pv 0) (j00 (pv 1) (j00 (pv 2) j02)))))))) (fun _=>(j03 (j0n (i:=6) jfn.nd rfl (by first | exact Or.inl rfl | exact Or.inr rfl) (j1k (j00 (j07 cIsE (by rfl) T.n_isinstance PyProof.Rows.boot_isinstance (j00 (pv 5) (j00 (j3d (v:=V.ref a.c_NoWish) (by rfl) T.m_NoWish rfl) j02))) (j00 (j07 cIsE (by rfl) T.n_isinstance PyProof.Rows.boot_isinstance (j00 (pv 5) (j00 (j3d (v:=V.ref a.c_NoText) (by rfl) T.m_NoText rfl) j02))) (j00 (j07 cIsE (by rfl) T.n_isinstance PyProof.Rows.boot_isinstance (j00 (pv 5) (j00 (j3d (v:=V.ref a.c_NoState) (by rfl) T.m_NoState rfl) j02))) j02)))))
   (j03 (j0n (i:=4) jfn.nd rfl (by first | exact Or.inl rfl | exact Or.inr rfl) (j26 (j07 cIsE (by rfl) T.n_isinstance PyProof.Rows.boot_isinstance (j00 (pv 5) (j00 (j3d (v:=V.ref a.c_TooGreat) (by rfl) T.m_TooGreat rfl) j02))) (j26 (j07 cIsE (by rfl) T.n_isinstance PyProof.Rows.boot_isinstance (j00 (pv 5) (j00 (j19 (v:=V.ty "ValueError") (by rfl) T.n_ValueError (by decide +kernel) rfl) j02))) (j35 (j1u oIsN (jh7 (pv 5) rfl) j3r (j0o _))))))
   (j06 (j0n (i:=4) jfn.nd rfl (by first | exact Or.inl rfl | exact Or.inr rfl) (j26 (pv 4) (j35 (j1u jgi jad (pv 6) (by with_unfolding_all rfl))))))))))
   (j06 (j0d (pv 4))))),?_⟩
  cases bb with
  | true =>
   walk_at "v"
   refine hT.best hwl fun d H2 x2 q2=>?_
   refine⟨_,rfl,j6r T.ek_TooGreat T.ek_LateError,fun e he=>?_⟩
   have nd:d≠e:=fun z=>by rw[z,he] at q2;cases q2
   have hE:HasErr (upd H2 e (errH e (.ref a.c_TooGreat) (some d))) e a.c_TooGreat d:=.inl j04
   have hd:(upd H2 e (errH e (.ref a.c_TooGreat) (some d))) d=some (.xd [("row",.non)]):=by rw[j08 nd];exact q2
   have x3:Ext H (upd H2 e (errH e (.ref a.c_TooGreat) (some d))):=x2.tr (j0g he)
   have ei:=T.ek_TooGreat.ei (.inr ⟨_,rfl⟩)
   generalize upd H2 e (errH e (.ref a.c_TooGreat) (some d))=H3 at *
   walk_at "v"
   refine j4n hE hd ei T.ke_TooGreat_NoWish ?_
   walk_at "v"
   refine j4n hE hd ei T.ke_TooGreat_NoText ?_
   walk_at "v"
   refine j4n hE hd ei T.ke_TooGreat_NoState ?_
   walk_at "v"
   intro l4 H4 n4 q4 e4
   have hE4:=hE.mono e4
   have hd4:=e4 _ _ hd
   walk_at "v"
   refine j4n hE4 hd4 ei j8y ?_
   walk_at "v"
   refine jh8 hE4 hd4 ei T.kt_TooGreat_ValueError ?_
   walk_at "v"
   refine jha hE4 hd4 T.ek_TooGreat (.inr ⟨_,rfl⟩) ?_
   walk_at "v"
   refine j8m q4 rfl rfl ?_
   walk_at "v"
   exact hq H4 (x3.tr e4)
  | false =>
   walk_at "v"
   refine hT.table hwl fun d H2 x2 q2=>?_
   refine⟨_,rfl,j6r T.ek_TooGreat T.ek_LateError,fun e he=>?_⟩
   have nd:d≠e:=fun z=>by rw[z,he] at q2;cases q2
   have hE:HasErr (upd H2 e (errH e (.ref a.c_TooGreat) (some d))) e a.c_TooGreat d:=.inl j04
   have hd:(upd H2 e (errH e (.ref a.c_TooGreat) (some d))) d=some (.xd [("row",.non)]):=by rw[j08 nd];exact q2
   have x3:Ext H (upd H2 e (errH e (.ref a.c_TooGreat) (some d))):=x2.tr (j0g he)
   have ei:=T.ek_TooGreat.ei (.inr ⟨_,rfl⟩)
   generalize upd H2 e (errH e (.ref a.c_TooGreat) (some d))=H3 at *
   walk_at "v"
   refine j4n hE hd ei T.ke_TooGreat_NoWish ?_
   walk_at "v"
   refine j4n hE hd ei T.ke_TooGreat_NoText ?_
   walk_at "v"
   refine j4n hE hd ei T.ke_TooGreat_NoState ?_
   walk_at "v"
   intro l4 H4 n4 q4 e4
   have hE4:=hE.mono e4
   have hd4:=e4 _ _ hd
   walk_at "v"
   refine j4n hE4 hd4 ei j8y ?_
   walk_at "v"
   refine jh8 hE4 hd4 ei T.kt_TooGreat_ValueError ?_
   walk_at "v"
   refine jha hE4 hd4 T.ek_TooGreat (.inr ⟨_,rfl⟩) ?_
   walk_at "v"
   refine j8m q4 rfl rfl ?_
   walk_at "v"
   exact hq H4 (x3.tr e4)
def j24 (a:Adr):Sp:=fun us H Q _=>∃ (w sp wl:Addr) (vs:List V),us=[.ref w,.ref sp,.ref wl]∧H wl=some (.lst vs)∧TooG a H w sp vs∧∀ H',Ext H H'→Q (.bl true) H'
theorem j0z (T:Txt K mg a):FnOk P w K mg base (CXU P w) 9 a.f_z0 a.d_z0 ["_law_world","_law_start","_law_wishes"] (j24 a):=by
 refine T.F_z0.okU sc_z0 (fun vs H Q E h=>?_) (fun cdv A outer s H vs Q E hr h=>?_)
 ·obtain⟨w,sp,wl,vs,rfl,hwl,hT,hq⟩:=h
  rfl
 ·obtain⟨w,sp,wl,vs,rfl,hwl,hT,hq⟩:=h
  refine⟨_,(j06 (j0d (j26 (j0c (j23 T) (hr.mono (by decide)) (by rfl) T.m_z7 T.F_z7.kp T.b_z7 .nil j0s (j00 (pv 0) (j00 (pv 1) (j00 (j0j jgg (by rfl) T.n_list PyProof.Rows.boot_list (j00 (pv 2) j02)) (j00 jad j02))))) (j35 (j0c (j23 T) (hr.mono (by decide)) (by rfl) T.m_z7 T.F_z7.kp T.b_z7 .nil j0s (j00 (pv 0) (j00 (pv 1) (j00 (j0j jgg (by rfl) T.n_list PyProof.Rows.boot_list (j00 (pv 2) j02)) (j00 jad j02))))))))),?_⟩
  walk_at "v"
  refine j6m hwl fun l1 H1 n1 q1 e1=>?_
  walk_at "v"
  refine⟨w,sp,l1,false,vs,rfl,q1,hT.ext e1,fun H2 e2=>?_⟩
  have x2:=e1.tr e2
  walk_at "v"
  refine j6m (x2 _ _ hwl) fun l3 H3 n3 q3 e3=>?_
  walk_at "v"
  exact⟨w,sp,l3,true,vs,rfl,q3,hT.ext (x2.tr e3),fun H4 e4=>hq H4 ((x2.tr e3).tr e4)⟩
def j60:Sp:=fun vs H Q _=>∃ (g:G65) (b:Addr) (ns:List Int) (w R:Int),vs=[.ref b,.int w,.int R]∧H b=some (.tup (ns.map V.int))∧g.ok 40 ns∧g.rm R ∧
 ∀ l ys Ls H',H l=none→H' l=some (.lst ys)→RefsH H' ys Ls→(∀ L,L∈Ls↔g.go w ns L)→Ls.length≤60→Ext H H'→Q (.ref l) H'
theorem j61 (T:Txt K mg a):FnOk P w K mg base (CXU P w) 1 a.f_z17 a.d_z17 ["_law_state","_law_wish","_law_room"] (j60):=by
 refine T.F_z17.okU jf7 (fun vs H Q E h=>?_) (fun cdv A outer s H vs Q E hr h=>?_)
 ·obtain⟨g,b,ns,w,R,rfl,hb,hok,hR,hq⟩:=h
  rfl
 ·obtain⟨g,b,ns,w,R,rfl,hb,hok,hR,hq⟩:=h
  have zc_Bags:=T.cl_Bags
  have zn_Bags_room:=T.na_Bags_room
  have zc_Line:=T.cl_Line
  have zn_Line_many:=T.na_Line_many
  have zc_Shelf:=T.cl_Shelf
  have zn_Shelf_things:=T.na_Shelf_things
  refine⟨_,(j03 (j2l (PW.pt (jfq (j0f (oEq hr) (pv 2) j09 (j0o _)) (jc3 (j0f oIn (pv 1) (pv 0) (by with_unfolding_all rfl))))) (j06 (j0d (j1k (j00 (pv 0) j02)))) j0h)
   (j03 (j0n (i:=3) jf7.nd rfl (by first | exact Or.inl rfl | exact Or.inr rfl) (j1k j02))
   (j03 (j3s PassesOwn.never rfl (j0w rfl T.n_range (j00 (j07 j6s (by rfl) T.n_len PySem.boot_len (j00 (pv 0) j02)) j02)) (j0e (i:=4) jf7.nd rfl (by first | exact Or.inl rfl | exact Or.inr rfl)) (j06 (j2l (j0f (oEq hr) (pv 2) j09 (j0o _)) (j06 (j3e (jfj PySem.F.plainAttrs_list PySem.F.slot_list_append PySem.F.type_list_append j17 (pv 3) (j00 (j0j j4l (by rfl) T.n_tuple PyProof.Rows.boot_tuple (j00 (j07 j7m (by rfl) T.n_sorted PyProof.Rows.boot_sorted (j00 (j0l j1n (j0l j1n (j16 oSlV (pv 0) j1w (j1x (pv 4))) (j16 oSlV (pv 0) (j1x (j0l j1n (pv 4) j09)) j1w)) (j1v (j00 (pv 1) j02))) j02)) j02)) j02)))) (j06 (j2l (j0f oLeW (j0l j1n (j2o oIx (pv 0) (pv 4) (fun _ _=>rfl)) (pv 1)) (pv 2) (j0o _)) (j06 (j3e (jfj PySem.F.plainAttrs_list PySem.F.slot_list_append PySem.F.type_list_append j17 (pv 3) (j00 (j0j j4l (by rfl) T.n_tuple PyProof.Rows.boot_tuple (j00 (j07 j7m (by rfl) T.n_sorted PyProof.Rows.boot_sorted (j00 (j0l j1n (j0l j1n (j16 oSlV (pv 0) j1w (j1x (pv 4))) (j16 oSlV (pv 0) (j1x (j0l j1n (pv 4) j09)) j1w)) (j1v (j00 (j0l j1n (j2o oIx (pv 0) (pv 4) (fun _ _=>rfl)) (pv 1)) j02))) j02)) j02)) j02)))) j0h)))))
   (j03 (j2l (j0f jfh (pv 2) j09 (j0o _)) (j06 (j3e (jfj PySem.F.plainAttrs_list PySem.F.slot_list_append PySem.F.type_list_append j17 (pv 3) (j00 (j0j j4l (by rfl) T.n_tuple PyProof.Rows.boot_tuple (j00 (j07 j7m (by rfl) T.n_sorted PyProof.Rows.boot_sorted (j00 (j0l j1n (pv 0) (j1v (j00 (pv 1) j02))) j02)) j02)) j02)))) j0h)
   (j06 (j0d (pv 3))))))),?_⟩
  cases g with
  | line =>
   obtain⟨l1,l2⟩:=hok
   obtain rfl:R=0:=hR
   walk_at "v"
   refine r_inT hb rfl (j3y _) ?_
   rw[j5o]
   walk_at "v"
   refine iteD (fun hw=>?_) (fun hw=>?_)
   ·walk_at "v"
    intro lp H1 n1 q1 e1
    refine hq lp _ [ns] H1 n1 q1 (.cons (e1 _ _ hb) .nil) (fun L=>?_) (by simp) e1
    rw[List.mem_singleton]
    exact⟨fun z=>.inl ⟨hw,z⟩,fun z=>z.elim (fun y=>y.2) fun y=>absurd hw y.1⟩
   ·walk_at "v"
    intro lp H1 n1 q1 e1
    walk_at "v"
    refine j1f (e1 _ _ hb) ?_
    rw[List.length_map]
    walk_at "v"
    refine⟨_,rfl,by omega,by omega,j6c (fun i σ H2=>∃ (u:Option V) (ys:List V) (Ls:List (List Int)),σ=[some (.ref b),some (.int w),some (.int 0),some (.ref lp),u]∧Ext H H2∧H2 lp=some (.lst ys)∧RefsH H2 ys Ls∧Ls.length≤i∧∀ L,L∈Ls↔∃ k,k < i∧Sent ns k w L) ⟨none,[],[],rfl,e1,q1,.nil,Nat.le_refl _,fun L=>by simp⟩ ?_ ?_⟩
    ·rintro i σ H2 hi ⟨u,ys,Ls,rfl,x2,q2,r2,l2',m2⟩
     rw[show ((0:Int)+(i:Nat))=(i:Nat) by omega]
     walk_at "v"
     refine jfm (x2 _ _ hb) fun p3 H3 q3 e3=>?_
     rw[j45 (by omega)] at q3
     walk_at "v"
     refine jfm ((x2.tr e3) _ _ hb) fun p4 H4 q4 e4=>?_
     rw[show (some ((i:Int)+1))=some ((i+1:Nat):Int) from by rw[Int.natCast_add];rfl,j44 (by omega)] at q4
     walk_at "v"
     refine j1o (e4 _ _ q3) q4 (by simp;omega) fun p5 H5 q5 e5=>?_
     walk_at "v"
     intro p6 H6 n6 q6 e6
     walk_at "v"
     refine j1o (e6 _ _ q5) q6 (by simp;omega) fun p7 H7 q7 e7=>?_
     rw[cat3] at q7
     walk_at "v"
     refine j7t q7 (by simp;omega) fun p8 ms H8 n8 pm pw q8 e8=>?_
     walk_at "v"
     refine j1c q8 fun p9 H9 n9 q9 e9=>?_
     have x9:Ext H2 H9:=(((((e3.tr e4).tr e5).tr e6).tr e7).tr e8).tr e9
     have hs:Sent _ _ _ ms:=⟨pm.trans (perm3 _ _ _),pw⟩
     have q29:=x9 _ _ q2
     have ly:=r2.length
     walk_at "v"
     refine j2r q29 (by omega) fun H10 q10 b10=>?_
     have r10:RefsH H10 (ys++[.ref p9]) (Ls++[ms]):=RefsH.snoc Ext.rfl' (j2j q29 b10 _ _ q9) (RefsH.tk (j2j q29 b10) (r2.mono x9))
     refine⟨_,_,Ls++[ms],rfl,Ext.but (x2.tr x9) b10 n1,q10,r10,by simp;omega,fun L=>?_⟩
     rw[List.mem_append,List.mem_singleton,m2]
     constructor
     ·rintro (⟨k,hk,h⟩ | rfl)
      ·exact⟨k,by omega,h⟩
      ·exact⟨i,by omega,hs⟩
     ·rintro⟨k,hk,h⟩
      by_cases z:k < i
      ·exact .inl ⟨k,z,h⟩
      ·obtain rfl:k=i:=by omega
       exact .inr (h.same hs)
    ·rintro σ H2 ⟨u,ys,Ls,rfl,x2,q2,r2,l2',m2⟩
     walk_at "v"
     refine hq lp ys Ls H2 n1 q2 r2 (fun L=>?_) (by omega) x2
     rw[m2]
     exact⟨fun⟨k,hk,h⟩=>.inr ⟨hw,k,by omega,h⟩,fun z=>z.elim (fun y=>absurd y.1 hw) fun⟨_,k,hk,h⟩=>⟨k,by omega,h⟩⟩
  | bags S =>
   obtain⟨⟨o1,o2⟩,l2⟩:=hok
   obtain⟨rfl,R1⟩:R=S∧1≤S:=hR
   walk_at "v"
   refine iteD (fun c=>absurd c (by omega)) (fun _=>?_)
   walk_at "v"
   intro lp H1 n1 q1 e1
   walk_at "v"
   refine j1f (e1 _ _ hb) ?_
   rw[List.length_map]
   walk_at "v"
   refine⟨_,rfl,by omega,by omega,j6c (fun i σ H2=>∃ (u:Option V) (ys:List V) (Ls:List (List Int)),σ=[some (.ref b),some (.int w),some (.int R),some (.ref lp),u]∧Ext H H2∧H2 lp=some (.lst ys)∧RefsH H2 ys Ls∧Ls.length≤i∧∀ L,L∈Ls↔∃ k,k < i∧ns.getD k 0+w≤R∧Sent ns k (ns.getD k 0+w) L) ⟨none,[],[],rfl,e1,q1,.nil,Nat.le_refl _,fun L=>by simp⟩ ?_ ?_⟩
   ·rintro i σ H2 hi ⟨u,ys,Ls,rfl,x2,q2,r2,l2',m2⟩
    rw[show ((0:Int)+(i:Nat))=(i:Nat) by omega]
    have hix:atI (ns.map V.int) (i:Int)=some (.int (ns.getD i 0)):=j2v (by omega) (by omega)
    walk_at "v"
    refine iteD (fun c=>absurd c (by omega)) (fun _=>?_)
    walk_at "v"
    refine j5c (x2 _ _ hb) hix ?_
    walk_at "v"
    refine iteD (fun hc=>?_) (fun hc=>?_)
    ·walk_at "v"
     refine jfm (x2 _ _ hb) fun p3 H3 q3 e3=>?_
     rw[j45 (by omega)] at q3
     walk_at "v"
     refine jfm ((x2.tr e3) _ _ hb) fun p4 H4 q4 e4=>?_
     rw[show (some ((i:Int)+1))=some ((i+1:Nat):Int) from by rw[Int.natCast_add];rfl,j44 (by omega)] at q4
     walk_at "v"
     refine j1o (e4 _ _ q3) q4 (by simp;omega) fun p5 H5 q5 e5=>?_
     walk_at "v"
     refine j5c ((x2.tr (e3.tr (e4.tr e5))) _ _ hb) hix ?_
     walk_at "v"
     intro p6 H6 n6 q6 e6
     walk_at "v"
     refine j1o (e6 _ _ q5) q6 (by simp;omega) fun p7 H7 q7 e7=>?_
     rw[cat3] at q7
     walk_at "v"
     refine j7t q7 (by simp;omega) fun p8 ms H8 n8 pm pw q8 e8=>?_
     walk_at "v"
     refine j1c q8 fun p9 H9 n9 q9 e9=>?_
     have x9:Ext H2 H9:=(((((e3.tr e4).tr e5).tr e6).tr e7).tr e8).tr e9
     have hs:Sent _ _ _ ms:=⟨pm.trans (perm3 _ _ _),pw⟩
     have q29:=x9 _ _ q2
     have ly:=r2.length
     walk_at "v"
     refine j2r q29 (by omega) fun H10 q10 b10=>?_
     have r10:RefsH H10 (ys++[.ref p9]) (Ls++[ms]):=RefsH.snoc Ext.rfl' (j2j q29 b10 _ _ q9) (RefsH.tk (j2j q29 b10) (r2.mono x9))
     refine⟨_,_,Ls++[ms],rfl,Ext.but (x2.tr x9) b10 n1,q10,r10,by simp;omega,fun L=>?_⟩
     rw[List.mem_append,List.mem_singleton,m2]
     constructor
     ·rintro (⟨k,hk,h⟩ | rfl)
      ·exact⟨k,by omega,h⟩
      ·exact⟨i,by omega,hc,hs⟩
     ·rintro⟨k,hk,h1,h⟩
      by_cases z:k < i
      ·exact .inl ⟨k,z,h1,h⟩
      ·obtain rfl:k=i:=by omega
       exact .inr (h.same hs)
    ·walk_at "v"
     refine⟨_,ys,Ls,rfl,x2,q2,r2,by omega,fun L=>?_⟩
     rw[m2]
     constructor
     ·exact fun⟨k,hk,h⟩=>⟨k,by omega,h⟩
     ·rintro⟨k,hk,h1,h⟩
      by_cases z:k < i
      ·exact⟨k,z,h1,h⟩
      ·obtain rfl:k=i:=by omega
       exact absurd h1 hc
   ·rintro σ H2 ⟨u,ys,Ls,rfl,x2,q2,r2,l2',m2⟩
    have ly:=r2.length
    walk_at "v"
    refine iteD (fun _=>?_) (fun c=>absurd c (by omega))
    walk_at "v"
    intro p6 H6 n6 q6 e6
    walk_at "v"
    refine j1o ((x2.tr e6) _ _ hb) q6 (by simp;omega) fun p7 H7 q7 e7=>?_
    rw[show ns.map V.int++[V.int w]=(ns++[w]).map V.int by simp] at q7
    walk_at "v"
    refine j7t q7 (by simp;omega) fun p8 ms H8 n8 pm pw q8 e8=>?_
    walk_at "v"
    refine j1c q8 fun p9 H9 n9 q9 e9=>?_
    have x9:Ext H2 H9:=((e6.tr e7).tr e8).tr e9
    have q29:=x9 _ _ q2
    walk_at "v"
    refine j2r q29 (by omega) fun H10 q10 b10=>?_
    have r10:RefsH H10 (ys++[.ref p9]) (Ls++[ms]):=RefsH.snoc Ext.rfl' (j2j q29 b10 _ _ q9) (RefsH.tk (j2j q29 b10) (r2.mono x9))
    walk_at "v"
    refine hq lp _ (Ls++[ms]) H10 n1 q10 r10 (fun L=>?_) (by simp;omega) (Ext.but (x2.tr x9) b10 n1)
    rw[List.mem_append,List.mem_singleton,m2]
    constructor
    ·rintro (⟨k,hk,h1,h2,h3⟩ | rfl)
     ·exact⟨0,h3,.inr ⟨rfl,k,by omega,h1,by rw[← jf9 (by omega)];exact h2⟩⟩
     ·exact⟨1,pw,.inl ⟨rfl,pm⟩⟩
    ·rintro⟨pr,h3,⟨_,h2⟩ | ⟨_,k,hk,h1,h2⟩⟩
     ·exact .inr (j0y (h2.trans pm.symm) h3 pw)
     ·exact .inl ⟨k,by omega,h1,by rw[jf9 hk];exact h2,h3⟩
def j59:Sp:=fun vs H Q _=>∃ (g:G65) (sp wl:Addr) (st ws:List Int) (R:Int) (n:Nat),vs=[.ref sp,.ref wl,.int R]∧H sp=some (.tup (st.map V.int))∧H wl=some (.lst (ws.map V.int))∧g.ok n st∧n+ws.length≤40∧(∀ x∈ws,g.okW x)∧g.rm R ∧
 ∀ l (Rs:List (List (List Int))) H',H' l=some (.lst (Rs.map fun A=>V.int (A.length:Nat)))→Ext H H'→(Fit g st ws Rs∨∃ j,Big g st ws j Rs∧Rs.length=j+1)→Q (.ref l) H'
theorem j5a (T:Txt K mg a):FnOk P w K mg base (CXU P w) 2 a.f_z14 a.d_z14 ["_law_start","_law_wishes","_law_room"] (j59):=by
 refine T.F_z14.okU j4x (fun vs H Q E h=>?_) (fun cdv A outer s H vs Q E hr h=>?_)
 ·obtain⟨g,sp,wl,st,ws,R,n,rfl,hsp,hwl,hok,hn,hwk,hrm,hq⟩:=h
  rfl
 ·obtain⟨g,sp,wl,st,ws,R,n,rfl,hsp,hwl,hok,hn,hwk,hrm,hq⟩:=h
  have zc_Bags:=T.cl_Bags
  have zn_Bags_room:=T.na_Bags_room
  have zc_Line:=T.cl_Line
  have zn_Line_many:=T.na_Line_many
  have zc_Shelf:=T.cl_Shelf
  have zn_Shelf_things:=T.na_Shelf_things
  refine⟨_,(j03 (j0n (i:=3) j4x.nd rfl (by first | exact Or.inl rfl | exact Or.inr rfl) (jbm (j9t hr (pv 0) jad)))
   (j03 (j0n (i:=4) j4x.nd rfl (by first | exact Or.inl rfl | exact Or.inr rfl) (j1k (j00 j09 j02)))
   (j03 (j3s PassesOwn.never rfl (j1l (pv 1)) (j0e (i:=5) j4x.nd rfl (by first | exact Or.inl rfl | exact Or.inr rfl)) (j03 (j0n (i:=6) j4x.nd rfl (by first | exact Or.inl rfl | exact Or.inr rfl) j8h)
   (j03 (j3s PassesOwn.never rfl (jm9 (pv 3)) (j0e (i:=7) j4x.nd rfl (by first | exact Or.inl rfl | exact Or.inr rfl)) (j06 (j3s PassesOwn.never rfl (j1l (j0c (j61 T) (hr.mono (by decide)) (by rfl) T.m_z17 T.F_z17.kp T.b_z17 .nil j0s (j00 (pv 7) (j00 (pv 5) (j00 (pv 2) j02))))) (j0e (i:=8) j4x.nd rfl (by first | exact Or.inl rfl | exact Or.inr rfl)) (j06 (j91 hr (pv 6) (pv 8) jad rfl)))))
   (j03 (j0n (i:=3) j4x.nd rfl (by first | exact Or.inl rfl | exact Or.inr rfl) (jbm (pv 6)))
   (j03 (j3e (jfj PySem.F.plainAttrs_list PySem.F.slot_list_append PySem.F.type_list_append j17 (pv 4) (j00 (j07 cLenF (by rfl) T.n_len PySem.boot_len (j00 (pv 3) j02)) j02)))
   (j06 (j2l (j0f jfh (j07 cLenF (by rfl) T.n_len PySem.boot_len (j00 (pv 3) j02)) j09 (j0o _)) (j06 (j0d (pv 4))) j0h)))))))
   (j06 (j0d (pv 4)))))),?_⟩
  walk_at "v"
  refine jjk ?_
  refine jcw fun fd H1 n1 q1 e1=>?_
  walk_at "v"
  refine j9u (ks:=kI st) q1 (by rw[j13];exact e1 _ _ hsp) fun H3 q3 b3=>?_
  refine jbn q3 fun o H4 q4 b4=>?_
  have x4:Ext H H4:=Ext.but (Ext.but e1 b3 n1) b4 n1
  walk_at "v"
  intro l H5 n5 q5 e5
  have nl:H l=none:=x4.free n5
  have x5:=x4.tr e5
  walk_at "v"
  refine⟨wl,rfl,⟨_,SqL.of (x5 _ _ hwl)⟩,j1r (xs:=ws.map V.int) (fun i σ H6=>∃ (u1 u2 u3 u4:Option V) (d:Addr) (o:Obj) (kvs:List (List Key × V)) (Rs:List (List (List Int))),σ=[some (.ref sp),some (.ref wl),some (.int R),some (.ref d),some (.ref l),u1,u2,u3,u4]∧Ext H H6∧H6 l=some (.lst (Rs.map fun A=>V.int (A.length:Nat)))∧H6 d=some (.frz o (.dT kvs))∧RowV (fun _=>True) kvs (Rs.getD i [])∧Chn g [st] (ws.take i) Rs∧∀ k,k≤i→(Rs.getD k []).length≤60) ⟨none,none,none,none,fd,o,_,[[st]],rfl,x5,q5,e5 _ _ q4,⟨rfl,fun _ _=>trivial⟩,Chn.nil,fun k hk=>?_⟩ (fun i σ H6 _ h=>by obtain⟨_,_,_,_,_,_,_,_,_,x,_⟩:=h;exact SqL.of (x _ _ hwl)) ?_ ?_⟩
  ·obtain rfl:k=0:=by omega
   show 1≤60
   decide
  ·rintro i y σ H6 hy ⟨u1,u2,u3,u4,d,o,kvs,Rs,rfl,x6,q6,hd,hR,c6,s6⟩
   obtain⟨x,ex,rfl⟩:=j3m hy
   have hi:i < ws.length:=(List.getElem?_eq_some_iff.mp ex).1
   have lt:(ws.take i).length=i:=by rw[List.length_take];omega
   have lR:=c6.ln
   rw[lt] at lR
   have okA:=c6.ok (n:=n) (fun L hL=>by rw[List.mem_singleton.mp hL];exact hok) (fun w hw=>hwk w (List.mem_of_mem_take hw)) i (by omega)
   have si:=s6 i (Nat.le_refl _)
   have et:ws.take (i+1)=ws.take i++[x]:=by rw[List.take_add_one,ex];rfl
   have lkv:=hR.length
   walk_at "v"
   refine jcx fun fd' H7 n7 q7 e7=>?_
   walk_at "v"
   refine jma ?_
   walk_at "v"
   refine⟨d,o,kvs,rfl,e7 _ _ hd,jex (Pv:=fun k σ H8=>∃ (u3 u4:Option V) (kf:List (List Key × V)) (ks:List (List Int)),σ=[some (.ref sp),some (.ref wl),some (.int R),some (.ref d),some (.ref l),some (.int x),some (.ref fd'),u3,u4]∧Ext H6 H8∧H8 fd'=some (.dT kf)∧RowV (fun _=>True) kf ks∧Stp g x ((Rs.getD i []).take k) ks∧ks.length≤60 * k) ⟨_,_,[],[],rfl,e7,q7,⟨rfl,fun _ _=>trivial⟩,⟨List.nodup_nil,fun L=>by simp⟩,by simp⟩ (fun k σ H8 _ h=>by obtain⟨_,_,_,_,_,x,_⟩:=h;exact x _ _ hd) ?_ ?_⟩
   ·rintro k kv bk σ H8 hkv hbk ⟨u3,u4,kf,ks,rfl,x8,qf,rf,st8,lk⟩
    obtain⟨L,eL,ek,_⟩:=hR.at hkv
    have hbk':H8 bk=some (.tup (L.map V.int)):=by rw[ek] at hbk;rw[← j13];exact hbk
    have hLok:=G65.okm (m:=40) (okA L (List.mem_of_getElem? eL)) (by omega)
    have et2:(Rs.getD i []).take (k+1)=(Rs.getD i []).take k++[L]:=by rw[List.take_add_one,eL];rfl
    have hk:k < 60:=by have:=(List.getElem?_eq_some_iff.mp eL).1;omega
    walk_at "v"
    refine⟨g,bk,L,x,R,rfl,hbk',hLok,hrm,fun la ys Ls H9 n9 q9 r9 g9 l9 e9=>?_⟩
    have qf9:=e9 _ _ qf
    have nlf:la≠fd':=(j05 qf n9).symm
    have ll:=r9.length
    walk_at "v"
    refine⟨la,rfl,⟨_,SqL.of q9⟩,j1r (xs:=ys) (fun j σ H10=>∃ (u4:Option V) (kf:List (List Key × V)) (ks':List (List Int)),σ=[some (.ref sp),some (.ref wl),some (.int R),some (.ref d),some (.ref l),some (.int x),some (.ref fd'),some (.ref bk),u4]∧But fd' H9 H10∧H10 fd'=some (.dT kf)∧RowV (fun _=>True) kf ks'∧ks'.Nodup∧(∀ M,M∈ks'↔M∈ks∨M∈Ls.take j)∧ks'.length≤ks.length+j) ⟨_,kf,ks,rfl,fun b o _ h=>h,qf9,rf,st8.1,fun M=>by simp,by simp⟩ (fun j σ H10 _ h=>by obtain⟨_,_,_,_,b10,_⟩:=h;exact SqL.of (b10 _ _ nlf q9)) ?_ ?_⟩
    ·rintro j y σ H10 hy ⟨u4,kf,ks',rfl,b10,q10,r10,nd10,m10,k10⟩
     obtain⟨c,rfl,hc⟩:=r9.get j y hy
     have hj:j < Ls.length:=by have:=(List.getElem?_eq_some_iff.mp hy).1;omega
     have em:=j5y hj
     generalize Ls.getD j []=M at *
     have hc10:=j1q qf9 b10 _ _ hc
     have al:=j5x (ks:=ks') (L:=M)
     have lk10:=r10.length
     walk_at "v"
     refine j4v (k:=kI M) q10 (by rw[j13];exact hc10) (by omega) fun H11 q11 b11=>?_
     exact⟨_,_,_,rfl,fun b o nb hb=>b11 b o nb (b10 b o nb hb),q11,RowV.put r10 trivial,j4z nd10,fun N=>by rw[j5w,m10,em,or_assoc],by omega⟩
    ·rintro σ H10 ⟨u4,kf,ks',rfl,b10,q10,r10,nd10,m10,k10⟩
     rw[ll] at k10
     rw[ll,List.take_length] at m10
     refine⟨_,_,kf,ks',rfl,Ext.but (x8.tr e9) b10 n7,q10,r10,⟨nd10,fun M=>?_⟩,by omega⟩
     rw[m10,st8.2,g9,et2]
     simp only[List.mem_append,List.mem_singleton]
     exact⟨fun z=>z.elim (fun⟨b,hb,hg⟩=>⟨b,.inl hb,hg⟩) fun hg=>⟨L,.inr rfl,hg⟩,fun⟨b,hb,hg⟩=>hb.elim (fun hb=>.inl ⟨b,hb,hg⟩) fun hb=>.inr (hb ▸ hg)⟩
   ·rintro σ H8 ⟨u3,u4,kf,ks,rfl,x8,qf,rf,st8,lk⟩
    rw[lkv,List.take_length] at st8
    have lf:=rf.length
    walk_at "v"
    refine jjk ?_
    walk_at "v"
    refine jbn qf fun o' H9 q9 b9=>?_
    have x9:Ext H6 H9:=Ext.but x8 b9 n7
    have q69:=x9 _ _ q6
    walk_at "v"
    refine jib q9 (by omega) ?_
    walk_at "v"
    refine j2r q69 (by rw[List.length_map];omega) fun H10 q10 b10=>?_
    have ndl:fd'≠l:=(j05 q6 n7).symm
    have q910:=b10 _ _ ndl q9
    have c7:=c6.snoc (w:=x) (C:=ks) (by rw[lt];exact st8)
    rw[← et] at c7
    rw[lf,show (Rs.map fun A=>V.int (A.length:Nat))++[V.int (ks.length:Nat)]=(Rs++[ks]).map fun A=>V.int (A.length:Nat) by rw[List.map_append];rfl] at q10
    have x10:Ext H H10:=Ext.but (x6.tr x9) b10 nl
    walk_at "v"
    refine jib q910 (by omega) ?_
    walk_at "v"
    refine iteD (fun cl=>?_) (fun cl=>?_)
    ·walk_at "v"
     exact hq l (Rs++[ks]) H10 q10 x10 (.inr ⟨i+1,⟨by omega,c7,by rw[← lR,j2i];omega⟩,by simp[lR]⟩)
    ·walk_at "v"
     refine⟨_,_,_,_,fd',o',kf,Rs++[ks],rfl,x10,q10,q910,?_,c7,fun k hk=>?_⟩
     ·rw[← lR,j2i]
      exact rf
     ·by_cases z:k≤i
      ·rw[j4y (by omega)]
       exact s6 k z
      ·obtain rfl:k=i+1:=by omega
       rw[← lR,j2i]
       omega
  ·rintro σ H6 ⟨u1,u2,u3,u4,d,o,kvs,Rs,rfl,x6,q6,hd,hR,c6,s6⟩
   rw[List.length_map] at s6
   rw[List.length_map,List.take_length] at c6
   walk_at "v"
   exact hq l Rs H6 q6 x6 (.inl ⟨c6,s6⟩)
def j62 (a:Adr):Sp:=fun vs H Q _=>∃ x dx v,vs=[.ref x,v]∧H x=some (.ins a.c_Bags dx [])∧∀ H',H' x=some (.ins a.c_Bags dx [("room",v)])→But x H H'→Q .non H'
theorem j63 (T:Txt K mg a):FnOk P w K mg base (CXU P w) 1 a.f_z15 a.d_z15 ["self","room"] (j62 a):=by
 refine T.F_z15.okU sc_z15 (fun vs H Q E h=>?_) (fun cdv A outer s H vs Q E hr h=>?_)
 ·obtain⟨x,dx,v,rfl,hx,hq⟩:=h
  rfl
 ·obtain⟨x,dx,v,rfl,hx,hq⟩:=h
  have zc_Bags:=T.cl_Bags
  have zn_Bags_room:=T.na_Bags_room
  have zc_Line:=T.cl_Line
  have zn_Line_many:=T.na_Line_many
  have zc_Shelf:=T.cl_Shelf
  have zn_Shelf_things:=T.na_Shelf_things
  refine⟨_,(j06 (jde (pv 0) (pv 1) rfl)),?_⟩
  walk_at "v"
  refine jkx hx T.cl_Bags T.na_Bags_room (jds rfl) fun H' h1 h2=>?_
  exact hq H' h1 h2
def j7v (K:PySem.W.Frag):Sp:=fun vs H Q _=>∃ (p:Addr) (ns:List Int) (k:Int),vs=[.ref p,.int k]∧SqL K H p (ns.map V.int)∧0≤k∧(∀ z∈ns,ib z≤1048576)∧∀ c,ib c≤1048576→Q (.int c) H
theorem j0q (T:Txt K mg a):FnOk P w K mg base (CXU P w) 1 a.f_z21 a.d_z21 ["_law_script","_law_k"] (j7v K):=by
 refine T.F_z21.okU sc_z21 (fun vs H Q E h=>?_) (fun cdv A outer s H vs Q E hr h=>?_)
 ·obtain⟨p,ns,k,rfl,hS,hk,hb,hq⟩:=h
  rfl
 ·obtain⟨p,ns,k,rfl,hS,hk,hb,hq⟩:=h
  refine⟨_,(j03 (j2l (j0f jjz (pv 1) (j07 j6s (by rfl) T.n_len PySem.boot_len (j00 (pv 0) j02)) (j0o _)) (j06 (j0d (j2o oIx (pv 0) (pv 1) (fun _ _=>rfl)))) j0h)
   (j06 (j0d j09))),?_⟩
  walk_at "v"
  refine jhj hS ?_
  walk_at "v"
  rw[List.length_map]
  refine iteD (fun h=>?_) (fun h=>?_)
  ·walk_at "v"
   have hl:k.toNat < ns.length:=by omega
   refine r_ixS hS (v:=.int ns[k.toNat]) (j3k hk (by rw[List.getElem?_map,List.getElem?_eq_getElem hl];rfl)) ?_
   exact hq _ (hb _ (List.getElem_mem hl))
  ·walk_at "v"
   exact hq 0 (by decide)
def j64:Sp:=fun vs H Q _=>∃ c k,vs=[.int c,.int k]∧0≤k∧k≤1000000∧∀ n,0≤n→n < 2147483629→Q (.int n) H
theorem j1s (T:Txt K mg a):FnOk P w K mg base (CXU P w) 1 a.f_z18 a.d_z18 ["_law_cell_here","_law_k"] (j64):=by
 refine T.F_z18.okU jid (fun vs H Q E h=>?_) (fun cdv A outer s H vs Q E hr h=>?_)
 ·obtain⟨c,k,rfl,h0,h1,hq⟩:=h
  rfl
 ·obtain⟨c,k,rfl,h0,h1,hq⟩:=h
  refine⟨_,(j03 (j0n (i:=2) jid.nd rfl (by first | exact Or.inl rfl | exact Or.inr rfl) (j0l j1j (j0l j1n (j0l j1n (j0l je4 (j0l j1j (pv 0) j09) j09) (j0l je4 (j0l je4 j09 (pv 1)) (pv 1))) j09) j09))
   (j06 (j0d (j0l j1j (j0l je4 (pv 2) (pv 2)) j09)))),?_⟩
  walk_at "v"
  exact hq _ (by omega) (by omega)
def j65 (a:Adr):Sp:=fun vs H Q _=>∃ x dx v,vs=[.ref x,v]∧H x=some (.ins a.c_Line dx [])∧∀ H',H' x=some (.ins a.c_Line dx [("many",v)])→But x H H'→Q .non H'
theorem j66 (T:Txt K mg a):FnOk P w K mg base (CXU P w) 1 a.f_z16 a.d_z16 ["self","many"] (j65 a):=by
 refine T.F_z16.okU sc_z16 (fun vs H Q E h=>?_) (fun cdv A outer s H vs Q E hr h=>?_)
 ·obtain⟨x,dx,v,rfl,hx,hq⟩:=h
  rfl
 ·obtain⟨x,dx,v,rfl,hx,hq⟩:=h
  have zc_Bags:=T.cl_Bags
  have zn_Bags_room:=T.na_Bags_room
  have zc_Line:=T.cl_Line
  have zn_Line_many:=T.na_Line_many
  have zc_Shelf:=T.cl_Shelf
  have zn_Shelf_things:=T.na_Shelf_things
  refine⟨_,(j06 (jde (pv 0) (pv 1) rfl)),?_⟩
  walk_at "v"
  refine jkx hx T.cl_Line T.na_Line_many (jds rfl) fun H' h1 h2=>?_
  exact hq H' h1 h2
def j67:Sp:=fun vs H Q _=>∃ x k,vs=[x]∧HasK H x k∧Q (.bl (k == .int)) H
theorem j68 (T:Txt K mg a):FnOk P w K mg base (CXU P w) 1 a.f_z20 a.d_z20 ["_law_found"] (j67):=by
 refine T.F_z20.okU sc_z20 (fun vs H Q E h=>?_) (fun cdv A outer s H vs Q E hr h=>?_)
 ·obtain⟨x,k,rfl,hk,hq⟩:=h
  rfl
 ·obtain⟨x,k,rfl,hk,hq⟩:=h
  refine⟨_,(j06 (j0d (j26 (j07 j8l (by rfl) T.n_isinstance PyProof.Rows.boot_isinstance (j00 (pv 0) (j00 (j19 (v:=V.ty "int") (by rfl) T.n_int PyProof.Rows.boot_int rfl) j02))) (j35 (pe_not (j07 j8l (by rfl) T.n_isinstance PyProof.Rows.boot_isinstance (j00 (pv 0) (j00 (j19 (v:=V.ty "bool") (by rfl) T.n_bool PyProof.Rows.boot_bool rfl) j02)))))))),?_⟩
  walk_at "v"
  refine r_isI hk ?_
  cases k <;> (walk_at "v") <;> first | exact hq | (refine jfl hk ?_;(walk_at "v");exact hq)
def j15 (n:Nat):Sp:=fun vs H Q _=>∃ x y d1 d2,vs=[x,y]∧Rep H d1 x∧Rep H d2 y∧d2.fine=true∧d2.depth≤n∧∀ b H',(b=true↔d1=d2)→Ext H H'→Q (.bl b) H'
def j12 (n:Nat):Sp:=fun vs H Q _=>∃ p q xs ys ds es,vs=[.ref p,.ref q]∧H p=some (.lst xs)∧H q=some (.lst ys)∧RepL H ds xs∧RepL H es ys∧D.fineL es=true∧D.depthL es≤n∧xs.length=ys.length ∧
 ∀ b H',(b=true↔ds=es)→Ext H H'→Q (.bl b) H'
theorem j7w {n k:Nat} (T:Txt K mg a) (G:FnOk P w K mg base (CXU P w) k a.f_z22 a.d_z22 ["_law_found","_law_due"] (j15 n)) :
  FnOk P w K mg base (CXU P w) (k+1) a.f_z4 a.d_z4 ["_law_found","_law_due"] (j12 n):=by
 refine T.F_z4.okU jms (fun vs H Q E h=>?_) (fun cdv A outer s H vs Q E hr h=>?_)
 ·obtain⟨p,q,xs,ys,ds,es,rfl,_⟩:=h
  rfl
 ·obtain⟨p,q,xs,ys,ds,es,rfl,hp,hq',hd,he,hf,hn,hl,hq⟩:=h
  refine⟨_,(j03 (j3s PassesOwn.never rfl (jce rfl T.n_zip (j00 (pv 0) (j00 (pv 1) j02))) (jd5 rfl (j27 (j0e (i:=2) jms.nd rfl (by first | exact Or.inl rfl | exact Or.inr rfl)) (j27 (j0e (i:=3) jms.nd rfl (by first | exact Or.inl rfl | exact Or.inr rfl)) j7z))) (j06 (j2l (jd3 (ptT (j0c (G) hr (by rfl) T.m_z22 T.F_z22.kp T.b_z22 .nil j0s (j00 (pv 2) (j00 (pv 3) j02))) (fun _=>rfl))) (j06 (j0d jad)) j0h)))
   (j06 (j0d jad))),?_⟩
  have l1:=hd.length
  have l2:=he.length
  walk_at "v"
  refine⟨p,q,xs,ys,false,false,rfl,SqL.of hp,SqL.of hq',jdw (fun i σ H2=>(∃ u v,σ=[some (.ref p),some (.ref q),u,v])∧Ext H H2∧ds.take i=es.take i) hl ⟨⟨none,none,rfl⟩,Ext.rfl',rfl⟩ (fun i σ H2 _ ⟨_,e,_⟩=>⟨SqL.of (e _ _ hp),SqL.of (e _ _ hq')⟩) ?_ ?_⟩
  ·rintro i x y σ H2 r hx hy ⟨⟨u,v,rfl⟩,e,ht⟩ hr0
   obtain⟨d,d1,d2⟩:=hd.get hx
   obtain⟨f,f1,f2⟩:=he.get hy
   refine jgq j04 rfl ?_
   walk_at "v"
   have e2:Ext H (upd H2 r (.tup [x,y])):=e.tr (j0g hr0)
   refine⟨x,y,d,f,rfl,d2.mono e2,f2.mono e2,j8k hf f1,j6l hn f1,fun b H3 hb e3=>?_⟩
   walk_at "v"
   cases b with
   | true =>
    walk_at "v"
    refine⟨⟨_,_,rfl⟩,e2.tr e3,?_⟩
    rw[List.take_add_one,List.take_add_one,d1,f1,ht,hb.mp rfl]
   | false =>
    walk_at "v"
    refine hq false H3 ⟨fun z=>Bool.noConfusion z,fun z=>?_⟩ (e2.tr e3)
    subst z
    rw[d1] at f1
    cases f1
    exact hb.mpr rfl
  ·rintro σ H2 ⟨⟨u,v,rfl⟩,e,ht⟩
   walk_at "v"
   refine hq true H2 ⟨fun _=>?_,fun _=>rfl⟩ e
   rw[List.take_of_length_le (by omega),List.take_of_length_le (by omega)] at ht
   exact ht
theorem jd2 {n k:Nat}{spA:Sp} (T:Txt K mg a) (hA:∀ vs H Q E,(∃ m,n=m+1∧j12 m vs H Q E)→spA vs H Q E) (GA:FnOk P w K mg base (CXU P w) (k+1) a.f_z4 a.d_z4 ["_law_found","_law_due"] spA) :
  FnOk P w K mg base (CXU P w) (k+2) a.f_z22 a.d_z22 ["_law_found","_law_due"] (j15 n):=by
 refine T.F_z22.okU sc_z22 (fun vs H Q E h=>?_) (fun cdv A outer s H vs Q E hr h=>?_)
 ·obtain⟨x,y,d1,d2,rfl,_⟩:=h
  rfl
 ·obtain⟨x,y,d1,d2,rfl,h1,h2,hf,hn,hq⟩:=h
  refine⟨_,(j03 (j2l (ptT (j07 j8l (by rfl) T.n_isinstance PyProof.Rows.boot_isinstance (j00 (pv 1) (j00 (j19 (v:=V.ty "tuple") (by rfl) T.n_tuple PyProof.Rows.boot_tuple rfl) j02))) (fun _=>rfl)) (j06 (j0d (j26 (j07 j8l (by rfl) T.n_isinstance PyProof.Rows.boot_isinstance (j00 (pv 0) (j00 (j19 (v:=V.ty "tuple") (by rfl) T.n_tuple PyProof.Rows.boot_tuple rfl) j02))) (j26 (j1u (oEq hr) (j07 j6s (by rfl) T.n_len PySem.boot_len (j00 (pv 0) j02)) (j07 j6s (by rfl) T.n_len PySem.boot_len (j00 (pv 1) j02)) (j0o _)) (j35 (j0c (GA) (hr.mono (by omega)) (by rfl) T.m_z4 T.F_z4.kp T.b_z4 .nil j0s (j00 (j0j jgg (by rfl) T.n_list PyProof.Rows.boot_list (j00 (pv 0) j02)) (j00 (j0j jgg (by rfl) T.n_list PyProof.Rows.boot_list (j00 (pv 1) j02)) j02)))))))) j0h)
   (j03 (j2l (ptT (j07 j8l (by rfl) T.n_isinstance PyProof.Rows.boot_isinstance (j00 (pv 1) (j00 (j19 (v:=V.ty "list") (by rfl) T.n_list PyProof.Rows.boot_list rfl) j02))) (fun _=>rfl)) (j06 (j0d (j26 (j07 j8l (by rfl) T.n_isinstance PyProof.Rows.boot_isinstance (j00 (pv 0) (j00 (j19 (v:=V.ty "list") (by rfl) T.n_list PyProof.Rows.boot_list rfl) j02))) (j26 (j1u (oEq hr) (j07 j6s (by rfl) T.n_len PySem.boot_len (j00 (pv 0) j02)) (j07 j6s (by rfl) T.n_len PySem.boot_len (j00 (pv 1) j02)) (j0o _)) (j35 (j0c (GA) (hr.mono (by omega)) (by rfl) T.m_z4 T.F_z4.kp T.b_z4 .nil j0s (j00 (pv 0) (j00 (pv 1) j02)))))))) j0h)
   (j03 (j2l (ptT (j07 j8l (by rfl) T.n_isinstance PyProof.Rows.boot_isinstance (j00 (pv 1) (j00 (j19 (v:=V.ty "bool") (by rfl) T.n_bool PyProof.Rows.boot_bool rfl) j02))) (fun _=>rfl)) (j06 (j0d (j26 (j07 j8l (by rfl) T.n_isinstance PyProof.Rows.boot_isinstance (j00 (pv 0) (j00 (j19 (v:=V.ty "bool") (by rfl) T.n_bool PyProof.Rows.boot_bool rfl) j02))) (j35 (j1u (oEq hr) (pv 0) (pv 1) (j0o _)))))) j0h)
   (j03 (j2l (j0f oIsN (pv 1) j3r (j0o _)) (j06 (j0d (j1u oIsN (pv 0) j3r (j0o _)))) j0h)
   (j03 (j2l (ptT (j07 j8l (by rfl) T.n_isinstance PyProof.Rows.boot_isinstance (j00 (pv 1) (j00 (j19 (v:=V.ty "str") (by rfl) T.n_str PyProof.Rows.boot_str rfl) j02))) (fun _=>rfl)) (j06 (j0d (j26 (j07 j8l (by rfl) T.n_isinstance PyProof.Rows.boot_isinstance (j00 (pv 0) (j00 (j19 (v:=V.ty "str") (by rfl) T.n_str PyProof.Rows.boot_str rfl) j02))) (j35 (j1u (oEq hr) (pv 0) (pv 1) (j0o _)))))) j0h)
   (j06 (j0d (j26 (j0c (j68 T) (hr.mono (by omega)) (by rfl) T.m_z20 T.F_z20.kp T.b_z20 .nil j0s (j00 (pv 0) j02)) (j35 (j1u (oEq hr) (pv 0) (pv 1) (j0o _))))))))))),?_⟩
  have k1:=h1.kd
  have k2:=h2.kd
  have no:∀ {B:Prop},¬ B→(false=true↔B):=fun nb=>⟨fun z=>Bool.noConfusion z,fun z=>(nb z).elim⟩
  walk_at "v"
  refine r_isT k2 ?_
  cases d2 with
  | tup es =>
   walk_at "v"
   refine r_isT k1 ?_
   cases d1 with
   | tup ds =>
    obtain⟨p,xs,rfl,hp,hd⟩:=h1
    obtain⟨q,ys,rfl,hq',he⟩:=h2
    walk_at "v"
    refine j1f hp ?_
    walk_at "v"
    refine j1f hq' ?_
    walk_at "v"
    refine iteD (fun hl=>?_) (fun hl=>?_)
    ·walk_at "v"
     refine jcd hp fun p2 H2 n2 hp2 e2=>?_
     walk_at "v"
     refine jcd (e2 _ _ hq') fun q2 H3 n3 hq3 e3=>?_
     walk_at "v"
     have hn':D.depthL es+1≤n:=hn
     refine hA _ _ _ _ ⟨n-1,by omega,p2,q2,xs,ys,ds,es,rfl,e3 _ _ hp2,hq3,hd.mono (e2.tr e3),he.mono (e2.tr e3),hf,by omega,by omega,fun b H4 hb e4=>?_⟩
     exact hq b H4 (hb.trans ⟨fun z=>by rw[z],fun z=>by cases z;rfl⟩) ((e2.tr e3).tr e4)
    ·walk_at "v"
     refine hq false H (no fun z=>hl ?_) Ext.rfl'
     cases z
     have l1:=hd.length
     have l2:=he.length
     omega
   | _ =>
    walk_at "v"
    exact hq false H (no fun z=>by cases z) Ext.rfl'
  | lst es =>
   walk_at "v"
   refine jcc k2 ?_
   walk_at "v"
   refine jcc k1 ?_
   cases d1 with
   | lst ds =>
    obtain⟨p,xs,rfl,hp,hd⟩:=h1
    obtain⟨q,ys,rfl,hq',he⟩:=h2
    walk_at "v"
    refine j6u hp ?_
    walk_at "v"
    refine j6u hq' ?_
    walk_at "v"
    refine iteD (fun hl=>?_) (fun hl=>?_)
    ·walk_at "v"
     have hn':D.depthL es+1≤n:=hn
     refine hA _ _ _ _ ⟨n-1,by omega,p,q,xs,ys,ds,es,rfl,hp,hq',hd,he,hf,by omega,by omega,fun b H4 hb e4=>?_⟩
     exact hq b H4 (hb.trans ⟨fun z=>by rw[z],fun z=>by cases z;rfl⟩) e4
    ·walk_at "v"
     refine hq false H (no fun z=>hl ?_) Ext.rfl'
     cases z
     have l1:=hd.length
     have l2:=he.length
     omega
   | _ =>
    walk_at "v"
    exact hq false H (no fun z=>by cases z) Ext.rfl'
  | bl c =>
   cases (show y=.bl c from h2)
   walk_at "v"
   refine jcc k2 ?_
   walk_at "v"
   refine jfl k2 ?_
   walk_at "v"
   refine jfl k1 ?_
   cases d1 with
   | bl c1 =>
    cases (show x=.bl c1 from h1)
    walk_at "v"
    refine r_eqUB (hq _ H ?_ Ext.rfl')
    rw[decide_eq_true_iff]
    exact⟨fun z=>by rw[z],fun z=>by cases z;rfl⟩
   | _ =>
    walk_at "v"
    exact hq false H (no fun z=>by cases z) Ext.rfl'
  | non =>
   cases (show y=.non from h2)
   walk_at "v"
   refine jcc k2 ?_
   walk_at "v"
   refine jfl k2 ?_
   walk_at "v"
   refine hq _ H ?_ Ext.rfl'
   rw[decide_eq_true_iff]
   cases d1 with
   | non=>exact⟨fun _=>rfl,fun _=>h1⟩
   | bl c1=>cases (show x=.bl c1 from h1);exact⟨fun z=>(by cases z),fun z=>(by cases z)⟩
   | int c1=>cases (show x=.int c1 from h1);exact⟨fun z=>(by cases z),fun z=>(by cases z)⟩
   | str c1=>cases (show x=.str c1 from h1);exact⟨fun z=>(by cases z),fun z=>(by cases z)⟩
   | tup c1=>obtain⟨_,_,rfl,_⟩:=h1;exact⟨fun z=>(by cases z),fun z=>(by cases z)⟩
   | lst c1=>obtain⟨_,_,rfl,_⟩:=h1;exact⟨fun z=>(by cases z),fun z=>(by cases z)⟩
   | dct=>obtain⟨_,_,rfl,_⟩:=h1;exact⟨fun z=>(by cases z),fun z=>(by cases z)⟩
  | str c =>
   cases (show y=.str c from h2)
   walk_at "v"
   refine jcc k2 ?_
   walk_at "v"
   refine jfl k2 ?_
   walk_at "v"
   refine jl3 k2 ?_
   walk_at "v"
   refine jl3 k1 ?_
   cases d1 with
   | str c1 =>
    cases (show x=.str c1 from h1)
    walk_at "v"
    refine r_eqUS (hq _ H ?_ Ext.rfl')
    rw[decide_eq_true_iff]
    exact⟨fun z=>by rw[z],fun z=>by cases z;rfl⟩
   | _ =>
    walk_at "v"
    exact hq false H (no fun z=>by cases z) Ext.rfl'
  | int c =>
   cases (show y=.int c from h2)
   walk_at "v"
   refine jcc k2 ?_
   walk_at "v"
   refine jfl k2 ?_
   walk_at "v"
   refine jl3 k2 ?_
   walk_at "v"
   refine⟨x,_,rfl,k1,?_⟩
   cases d1 with
   | int c1 =>
    cases (show x=.int c1 from h1)
    walk_at "v"
    refine hq _ H ?_ Ext.rfl'
    rw[decide_eq_true_iff]
    exact⟨fun z=>by rw[z],fun z=>by cases z;rfl⟩
   | _ =>
    walk_at "v"
    exact hq false H (no fun z=>by cases z) Ext.rfl'
  | dct=>cases hf
theorem j7a (T:Txt K mg a):∀ n:Nat,FnOk P w K mg base (CXU P w) (2 * n+2) a.f_z22 a.d_z22 ["_law_found","_law_due"] (j15 n)
 | 0=>jd2 (k:=0) (spA:=fun _ _ _ _=>False) T (fun _ _ _ _ ⟨m,e,_⟩=>by omega) FnOk.no
 | n+1=>by
  have G:=j7w T (j7a T n)
  have z:=jd2 (n:=n+1) (k:=2 * n+2) (spA:=j12 n) T (fun _ _ _ _ ⟨m,e,h⟩=>by cases e;exact h) G
  exact z
theorem j3p (T:Txt K mg a):FnOk P w K mg base (CXU P w) 12 a.f_z22 a.d_z22 ["_law_found","_law_due"] (j15 5):=j7a T 5
theorem ja6 {x y:V}{d:D}{H:Hp}{Q:VK}{E:XK} (h1:Rep H d x) (h2:Rep H d y) (hf:d.fine=true) (hd:Nat.ble d.depth 5=true) (hq:∀ H',Ext H H'→Q (.bl true) H'):j15 5 [x,y] H Q E :=
 ⟨x,y,d,d,rfl,h1,h2,hf,Nat.le_of_ble_eq_true hd,fun b H' hb e=>by rw[hb.mpr rfl];exact hq H' e⟩
def j5b (a:Adr):Sp:=fun vs H Q _=>∃ x dx v,vs=[.ref x,v]∧H x=some (.ins a.c_Shelf dx [])∧∀ H',H' x=some (.ins a.c_Shelf dx [("things",v)])→But x H H'→Q .non H'
theorem j1g (T:Txt K mg a):FnOk P w K mg base (CXU P w) 1 a.f_z13 a.d_z13 ["self","things"] (j5b a):=by
 refine T.F_z13.okU sc_z13 (fun vs H Q E h=>?_) (fun cdv A outer s H vs Q E hr h=>?_)
 ·obtain⟨x,dx,v,rfl,hx,hq⟩:=h
  rfl
 ·obtain⟨x,dx,v,rfl,hx,hq⟩:=h
  have zc_Bags:=T.cl_Bags
  have zn_Bags_room:=T.na_Bags_room
  have zc_Line:=T.cl_Line
  have zn_Line_many:=T.na_Line_many
  have zc_Shelf:=T.cl_Shelf
  have zn_Shelf_things:=T.na_Shelf_things
  refine⟨_,(j06 (jde (pv 0) (pv 1) rfl)),?_⟩
  walk_at "v"
  refine jkx hx T.cl_Shelf T.na_Shelf_things (jds rfl) fun H' h1 h2=>?_
  exact hq H' h1 h2
theorem jfc:(Str.ofString "abcdefgh").length=8:=by decide
theorem jil {i:Int} (h0:0≤i) (h1:i < 8):atI (Str.ofString "abcdefgh").cps.toList i=some (97+i.toNat):=by
 have e:(Str.ofString "abcdefgh").cps.toList=(List.range 8).map (97+·):=by decide
 rw[e]
 refine j3k h0 ?_
 rw[List.getElem?_map,List.getElem?_range (by omega)]
 rfl
theorem nm_mul {c n:Nat} (h1:97≤c) (h2:c≤122) (n1:1≤n) (n8:n≤8):nmS (mulS ⟨#[c]⟩ n)=true:=by
 have hl:=je3 ⟨#[c]⟩ n
 rw[show (⟨#[c]⟩:Str).length=1 from rfl,Nat.mul_one] at hl
 have hm:(mulS ⟨#[c]⟩ n).cps.toList=List.replicate n c:=by
  show ((List.replicate n [c]).flatten).toArray.toList=_
  rw[j8z]
 unfold nmS
 rw[hl,hm,decide_eq_true n1,decide_eq_true n8,Bool.true_and,Bool.true_and,List.all_eq_true]
 intro x hx
 rw[List.eq_of_mem_replicate hx]
 unfold nmL
 rw[decide_eq_true h1,decide_eq_true h2]
 rfl
theorem jfd (ss:List Str):eqD (.lst (ss.map D.str)) (.lst [])=decide (ss=[]):=by
 cases ss with
 | nil=>simp[eqD,D.py,D.pyL,PyData.eqv,PyData.eqvAll]
 | cons t r=>simp[eqD,D.py,D.pyL,PyData.eqv,PyData.eqvAll]
theorem jfe (ss:List Str):(D.lst [.lst [.tup [.tup (ss.map D.str),.int 0]]]).fine=true:=by
 show ((((D.tup (ss.map D.str)).fine && (true && true)) && true) && true)=true
 rw[fineS]
 rfl
theorem jim (ss:List Str):Nat.ble (D.lst [.lst [.tup [.tup (ss.map D.str),.int 0]]]).depth 5=true:=by
 show Nat.ble (max (max (max (D.depthL (ss.map D.str)+1) (max 0 0)+1) 0+1) 0+1) 5=true
 rw[depS]
 rfl
def j69 (K:PySem.W.Frag) (a:Adr):Sp:=fun us H Q _=>∃ (p:Addr) (cs:List Int) (n:Int),us=[.ref p,.int n]∧SqL K H p (cs.map V.int)∧(∀ z∈cs,ib z≤1048576)∧0≤n∧n < 2147483629∧TabB a H∧∀ H',Q (.bl true) H'
theorem j6a (T:Txt K mg a):FnOk P w K mg base (CXU P w) 13 a.f_z19 a.d_z19 ["_law_script","_law_head"] (j69 K a):=by
 refine T.F_z19.okU jf8 (fun vs H Q E h=>?_) (fun cdv A outer s H vs Q E hr h=>?_)
 ·obtain⟨p,cs,n,rfl,hS,hb,n0,n1,hTB,hq⟩:=h
  rfl
 ·obtain⟨p,cs,n,rfl,hS,hb,n0,n1,hTB,hq⟩:=h
  refine⟨_,(j03 (j0n (i:=2) jf8.nd rfl (by first | exact Or.inl rfl | exact Or.inr rfl) (j0j j4l (by rfl) T.n_tuple PyProof.Rows.boot_tuple (j00 (j2g (["_law_j"]:List Str) (["_law_head"]:List Str) [1] rfl ⟨rfl,by decide +kernel,by decide +kernel,by rfl,⟨⟨rfl,by first | exact Or.inl rfl | exact Or.inr rfl,by first | exact Or.inl rfl | exact Or.inr rfl⟩,trivial⟩⟩ (j0w rfl T.n_range (j00 (j0l j1n j09 (j0l j1j (j0l j2q (pv 1) j09) j09)) j02)) (fun _ _ _ _=>⟨(j0e (i:=0) (by show ((["_law_j"]:List Str)++(["_law_head"]:List Str)).Nodup;decide +kernel) rfl (by first | exact Or.inl rfl | exact Or.inr rfl)),(show PTs _ [] [] from trivial),(j0l je4 (j2o oIx pe_str (pv 0) (fun _ _=>rfl)) (j0l j1n j09 (j0l j1j (j0l j2q (pv 1) j09) j09)))⟩)) j02)))
   (j03 (j0t (i:=3) (["_law_k"]:List Str) (["_law_things","_law_script"]:List Str) [2,0] jf8.nd rfl (Or.inl rfl) rfl ⟨rfl,by decide +kernel,by decide +kernel,by rfl,⟨⟨rfl,by first | exact Or.inl rfl | exact Or.inr rfl,by first | exact Or.inl rfl | exact Or.inr rfl⟩,⟨rfl,by first | exact Or.inl rfl | exact Or.inr rfl,by first | exact Or.inl rfl | exact Or.inr rfl⟩,trivial⟩⟩ (j0w rfl T.n_range (j00 (j0l j1j (j0c (j0q T) (hr.mono (by decide)) (by rfl) T.m_z21 T.F_z21.kp T.b_z21 .nil j0s (j00 (pv 0) (j00 j09 j02))) j09) j02)) (fun _ _ _ _=>⟨(j0e (i:=0) (by show ((["_law_k"]:List Str)++(["_law_things","_law_script"]:List Str)).Nodup;decide +kernel) rfl (by first | exact Or.inl rfl | exact Or.inr rfl)),(show PTs _ [] [] from trivial),(j2o oIx (pv 1) (j0l j1j (j0c (j0q T) (hr.mono (by decide)) (by rfl) T.m_z21 T.F_z21.kp T.b_z21 .nil j0s (j00 (pv 2) (j00 (j0l j1n j09 (pv 0)) j02))) (j07 j6s (by rfl) T.n_len PySem.boot_len (j00 (pv 1) j02))) (fun _ _=>rfl))⟩))
   (j03 (j2l (j0f (oNe hr) (pv 3) (j1k j02) (j0o _)) (j06 (j0d (j0c (j0z T) (hr.mono (by decide)) (by rfl) T.m_z0 T.F_z0.kp T.b_z0 .nil j0s (j00 (j4c T.mk_Shelf (j1g T) (hr.mono (by decide)) (by rfl) T.m_Shelf T.b_z13 .nil j0s (j00 (pv 2) j02)) (j00 (pv 2) (j00 (pv 3) j02)))))) j0h)
   (j03 (j2l (jd3 (ptT (j0c (j3p T) (hr.mono (by decide)) (by rfl) T.m_z22 T.F_z22.kp T.b_z22 .nil j0s (j00 (j0c (j5z T) (hr.mono (by decide)) (by rfl) T.m_z26 T.F_z26.kp T.b_z26 .nil j0s (j00 (j4c T.mk_Shelf (j1g T) (hr.mono (by decide)) (by rfl) T.m_Shelf T.b_z13 .nil j0s (j00 (pv 2) j02)) (j00 (pv 2) (j00 (j1k j02) j02)))) (j00 (j1k (j00 (j1k (j00 (j1v (j00 (pv 2) (j00 j09 j02))) j02)) j02)) j02))) (fun _=>rfl))) (j06 (j0d jad)) j0h)
   (j06 (j0d (j0c (j3p T) (hr.mono (by decide)) (by rfl) T.m_z22 T.F_z22.kp T.b_z22 .nil j0s (j00 (j0c (jd1 T) (hr.mono (by decide)) (by rfl) T.m_z27 T.F_z27.kp T.b_z27 .nil j0s (j00 (j4c T.mk_Shelf (j1g T) (hr.mono (by decide)) (by rfl) T.m_Shelf T.b_z13 .nil j0s (j00 (pv 2) j02)) (j00 (pv 2) (j00 (j1k j02) j02)))) (j00 (j1v (j00 j09 (j00 (j1k j02) j02))) j02))))))))),?_⟩
  obtain⟨size,es,s1,s8⟩:∃ size:Nat,1+n / 24 % 8=size∧1≤size∧size≤8:=⟨(1+n / 24 % 8).toNat,by omega,by omega,by omega⟩
  obtain⟨m,em,m5,m8⟩:∃ m:Nat,5+n / 6 % 4=m∧5≤m∧m≤8:=⟨(5+n / 6 % 4).toNat,by omega,by omega,by omega⟩
  walk_at "v"
  rw[em]
  refine⟨_,rfl,by omega,by omega,fun acc hn _ _ _ _=>j1e (by omega) hn (fun j ys H2=>∃ ss:List Str,ys=ss.map V.str∧ss.length=j∧∀ s∈ss,nmS s=true) ⟨[],rfl,rfl,fun s h=>by cases h⟩ (fun _ _ _ _ _ h=>h) (fun j ys H' _ h=>by obtain⟨ss,rfl,l,_⟩:=h;rw[List.length_map];omega) ?_ ?_⟩
  ·rintro j ys H2 hj e ⟨ss,rfl,ls,ns⟩ Y N hY hN
   walk_at "v"
   rw[show ((0:Int)+(j:Nat))=(j:Nat) by omega]
   refine r_ixS1 (by rw[jfc];omega) (jil (i:=(j:Int)) (by omega) (by omega)) ?_
   walk_at "v"
   rw[es]
   refine jhi (by omega) (by omega) (by show 1≤1000;decide) ?_
   refine hY _ _ Ext.rfl' ⟨ss++[mulS ⟨#[97+(j:Int).toNat]⟩ (size:Int).toNat],by rw[List.map_append];rfl,by simp[ls],fun s hs=>?_⟩
   rcases List.mem_append.mp hs with z | z
   ·exact ns s z
   ·rw[List.mem_singleton.mp z]
    exact nm_mul (by omega) (by omega) (by omega) (by omega)
  rintro ys H1 e1 ha ⟨ss,rfl,ls,ns⟩
  have lm:ss.length=m:=by omega
  walk_at "v"
  refine j1c ha fun tp H2 n2 q2 e2=>?_
  have x2:=e1.tr e2
  walk_at "v"
  refine⟨p,cs,1,rfl,x2.seqL hS,by decide,hb,fun c1 hc1=>?_⟩
  obtain⟨k,ek,k4⟩:∃ k:Nat,c1 % 4=k∧k < 4:=⟨(c1 % 4).toNat,by omega,by omega⟩
  walk_at "v"
  rw[ek]
  refine⟨_,rfl,by omega,by omega,fun acc2 hn2 _ _ _ _=>j1e (by omega) hn2 (fun j ys H3=>∃ ts:List Str,ys=ts.map V.str∧ts.length=j∧∀ s∈ts,nmS s=true) ⟨[],rfl,rfl,fun s h=>by cases h⟩ (fun _ _ _ _ _ h=>h) (fun j ys H' _ h=>by obtain⟨ss,rfl,l,_⟩:=h;rw[List.length_map];omega) ?_ ?_⟩
  ·rintro j ys H3 hj e ⟨ts,rfl,lt,nt⟩ Y N hY hN
   walk_at "v"
   refine⟨p,cs,_,rfl,(x2.tr e).seqL hS,by omega,hb,fun c hc=>?_⟩
   walk_at "v"
   refine j1f (e _ _ q2) ?_
   rw[List.length_map,lm]
   have c0:=Int.emod_nonneg c (show (m:Int)≠0 by omega)
   have c1':=Int.emod_lt_of_pos c (show (0:Int) < m by omega)
   walk_at "v"
   refine j5c (e _ _ q2) (jfa c0 (by omega)) ?_
   refine hY _ _ Ext.rfl' ⟨ts++[ss.getD (c % (m:Int)).toNat ⟨#[]⟩],by rw[List.map_append];rfl,by simp[lt],fun s hs=>?_⟩
   rcases List.mem_append.mp hs with z | z
   ·exact nt s z
   ·rw[List.mem_singleton.mp z,List.getD_eq_getElem?_getD,List.getElem?_eq_getElem (show (c % (m:Int)).toNat < ss.length by omega)]
    exact ns _ (List.getElem_mem _)
  rintro ys H3 e3 ha3 ⟨ts,rfl,lt,nt⟩
  have x3:=x2.tr e3
  walk_at "v"
  intro l4 H4 n4 q4 e4
  have ha4:=e4 _ _ ha3
  have q24:=(e3.tr e4) _ _ q2
  have x4:=x3.tr e4
  walk_at "v"
  refine r_neD (jbx ha4) (Rep.lstI q4 RepL.nil) (eqOkS nt) rfl (by show D.depthL (ts.map D.str)+1≤20;rw[depS];decide) ?_
  rw[jfd]
  walk_at "v"
  refine iteN (fun z=>?_) (fun z=>?_)
  ·walk_at "v"
   intro r dr k1 k2 k3
   refine⟨r,dr,.ref tp,rfl,j04,fun H5 hr5 b5=>⟨rfl,?_⟩⟩
   have x5:Ext H4 H5:=fun b o h=>b5 b o (j05 h k1) (by rw[j08 (j05 h k1),j08 (j05 h k2)];exact h)
   walk_at "v"
   exact⟨r,tp,acc2,_,rfl,x5 _ _ ha4,.inr ⟨ss,ts,rfl,⟨dr,_,hr5⟩,x5 _ _ q24,by omega,z⟩,fun H6 _=>hq H6⟩
  ·walk_at "v"
   intro r dr k1 k2 k3
   refine⟨r,dr,.ref tp,rfl,j04,fun H5 hr5 b5=>⟨rfl,?_⟩⟩
   have x5:Ext H4 H5:=fun b o h=>b5 b o (j05 h k1) (by rw[j08 (j05 h k1),j08 (j05 h k2)];exact h)
   have q25:=x5 _ _ q24
   walk_at "v"
   intro l6 H6 n6 q6 e6
   walk_at "v"
   refine⟨r,tp,l6,rfl,.inr ⟨ss,[],⟨dr,_,e6 _ _ hr5⟩,e6 _ _ q25,q6,by omega,.inl ⟨rfl,fun l pp c b H7 n7 q7 q7p q7c q7b e7=>?_⟩⟩⟩
   have q27:=(e6.tr e7) _ _ q25
   walk_at "v"
   intro t8 H8 n8 q8 e8
   walk_at "v"
   intro t9 H9 n9 q9 e9
   walk_at "v"
   intro t10 H10 n10 q10 e10
   have e79:=e8.tr (e9.tr e10)
   walk_at "v"
   refine ja6 (d:=.lst [.lst [.tup [.tup (ss.map D.str),.int 0]]]) (Rep.lstI (e79 _ _ q7) (.cons (Rep.lstI (e79 _ _ q7p) (.cons (Rep.tupI (e79 _ _ q7c) (.cons (j77 (e79 _ _ q7b)) (.cons .intI .nil))) .nil)) .nil)) (Rep.lstI q10 (.cons (Rep.lstI (e10 _ _ q9) (.cons (Rep.tupI ((e9.tr e10) _ _ q8) (.cons (j77 (e79 _ _ q27)) (.cons .intI .nil))) .nil)) .nil)) (jfe ss) (jim ss) fun H11 e11=>?_
   have q211:=(e79.tr e11) _ _ q27
   have x11:Ext H H11:=x4.tr (x5.tr (e6.tr (e7.tr (e79.tr e11))))
   walk_at "v"
   intro r' dr' k1' k2' k3'
   refine⟨r',dr',.ref tp,rfl,j04,fun H12 hr12 b12=>⟨rfl,?_⟩⟩
   have x12:Ext H11 H12:=fun b o h=>b12 b o (j05 h k1') (by rw[j08 (j05 h k1'),j08 (j05 h k2')];exact h)
   walk_at "v"
   intro l13 H13 n13 q13 e13
   walk_at "v"
   refine⟨r',tp,l13,rfl,.inr ⟨ss,[],⟨dr',_,e13 _ _ hr12⟩,(x12.tr e13) _ _ q211,q13,by omega,.inl ⟨rfl,TabR.ext (x11.tr (x12.tr e13)) hTB,fun t14 yl H14 q14 q14y=>?_⟩⟩⟩
   walk_at "v"
   intro l15 H15 n15 q15 e15
   walk_at "v"
   intro t16 H16 n16 q16 e16
   walk_at "v"
   exact ja6 (d:=.tup [.int 0,.lst []]) (Rep.tupI ((e15.tr e16) _ _ q14) (.cons .intI (.cons (Rep.lstI ((e15.tr e16) _ _ q14y) .nil) .nil))) (Rep.tupI q16 (.cons .intI (.cons (Rep.lstI (e16 _ _ q15) .nil) .nil))) rfl rfl fun H17 _=>hq H17
theorem at3a (n:Int):∃ m:Int,atI [V.int 1,V.int 7,V.int (10 ^ Int.toNat 15)] (n % 3)=some (.int m)∧1≤m∧m≤1000000000000000:=by
 have h0:n % 3=0∨n % 3=1∨n % 3=2:=by omega
 rcases h0 with e | e | e <;> rw[e]
 ·exact⟨1,rfl,by omega,by omega⟩
 ·exact⟨7,rfl,by omega,by omega⟩
 ·exact⟨1000000000000000,rfl,by omega,by omega⟩
theorem at3b (n:Int):∃ m:Int,atI [V.int 100,V.int (10 ^ Int.toNat 9),V.int (10 ^ Int.toNat 18)] (n % 3)=some (.int m)∧100≤m:=by
 have h0:n % 3=0∨n % 3=1∨n % 3=2:=by omega
 rcases h0 with e | e | e <;> rw[e]
 ·exact⟨100,rfl,by omega⟩
 ·exact⟨1000000000,rfl,by omega⟩
 ·exact⟨1000000000000000000,rfl,by omega⟩
def sp_law (K:PySem.W.Frag) (a:Adr):Sp:=fun vs H Q _=>∃ (p:Addr) (ns:List Int),vs=[.ref p]∧SqL K H p (ns.map V.int)∧ns.length≤63∧(∀ z∈ns,ib z≤1048576)∧H a.tb_z27=some (.tbl #[])∧∀ H',Q (.bl true) H'
theorem ok_law (T:Txt K mg a):FnOk P w K mg base (CXU P w) 14 a.f_z29 a.d_z29 ["_law_script"] (sp_law K a):=by
 refine T.F_z29.okU j20 (fun vs H Q E h=>?_) (fun cdv A outer s H vs Q E hr h=>?_)
 ·obtain⟨p,cs,rfl,hS,hl,hb,hTB,hq⟩:=h
  rfl
 ·obtain⟨p,cs,rfl,hS,hl,hb,hTB,hq⟩:=h
  refine⟨_,(j03 (j0n (i:=1) j20.nd rfl (by first | exact Or.inl rfl | exact Or.inr rfl) (j0c (j1s T) (hr.mono (by decide)) (by rfl) T.m_z18 T.F_z18.kp T.b_z18 .nil j0s (j00 (j0c (j0q T) (hr.mono (by decide)) (by rfl) T.m_z21 T.F_z21.kp T.b_z21 .nil j0s (j00 (pv 0) (j00 j09 j02))) (j00 j09 j02))))
   (j03 (j2l (j0f (oEq hr) (j0l j1j (pv 1) j09) j09 (j0o _)) (j06 (j0d (j0c (j6a T) (hr.mono (by decide)) (by rfl) T.m_z19 T.F_z19.kp T.b_z19 .nil j0s (j00 (pv 0) (j00 (pv 1) j02))))) j0h)
   (j03 (j0n (i:=2) j20.nd rfl (by first | exact Or.inl rfl | exact Or.inr rfl) (j0l j1n j09 (j0l j1j (j0l j2q (pv 1) j09) j09)))
   (j03 (j0n (i:=3) j20.nd rfl (by first | exact Or.inl rfl | exact Or.inr rfl) (j2o oIx (j1k (j00 j09 (j00 j09 (j00 (j0l jd7 j09 j09) j02)))) (j0l j1j (j0l j2q (pv 1) j09) j09) (fun _ _=>rfl)))
   (j03 (j0n (i:=4) j20.nd rfl (by first | exact Or.inl rfl | exact Or.inr rfl) (j0j j4l (by rfl) T.n_tuple PyProof.Rows.boot_tuple (j00 (j2g (["_law_j"]:List Str) (["_law_wide"]:List Str) [3] rfl ⟨rfl,by decide +kernel,by decide +kernel,by rfl,⟨⟨rfl,by first | exact Or.inl rfl | exact Or.inr rfl,by first | exact Or.inl rfl | exact Or.inr rfl⟩,trivial⟩⟩ (j0w rfl T.n_range (j00 (pv 2) j02)) (fun _ _ _ _=>⟨(j0e (i:=0) (by show ((["_law_j"]:List Str)++(["_law_wide"]:List Str)).Nodup;decide +kernel) rfl (by first | exact Or.inl rfl | exact Or.inr rfl)),(show PTs _ [] [] from trivial),(j0l je4 (pv 1) (pv 0))⟩)) j02)))
   (j03 (j0t (i:=5) (["_law_k"]:List Str) (["_law_wide","_law_many","_law_script"]:List Str) [3,2,0] j20.nd rfl (Or.inl rfl) rfl ⟨rfl,by decide +kernel,by decide +kernel,by rfl,⟨⟨rfl,by first | exact Or.inl rfl | exact Or.inr rfl,by first | exact Or.inl rfl | exact Or.inr rfl⟩,⟨rfl,by first | exact Or.inl rfl | exact Or.inr rfl,by first | exact Or.inl rfl | exact Or.inr rfl⟩,⟨rfl,by first | exact Or.inl rfl | exact Or.inr rfl,by first | exact Or.inl rfl | exact Or.inr rfl⟩,trivial⟩⟩ (j0w rfl T.n_range (j00 (j0l j1j (j0c (j0q T) (hr.mono (by decide)) (by rfl) T.m_z21 T.F_z21.kp T.b_z21 .nil j0s (j00 (pv 0) (j00 j09 j02))) j09) j02)) (fun _ _ _ _=>⟨(j0e (i:=0) (by show ((["_law_k"]:List Str)++(["_law_wide","_law_many","_law_script"]:List Str)).Nodup;decide +kernel) rfl (by first | exact Or.inl rfl | exact Or.inr rfl)),(show PTs _ [] [] from trivial),(j0l je4 (pv 1) (j0l j1n (pv 2) (j0l j1j (j0c (j1s T) (hr.mono (by decide)) (by rfl) T.m_z18 T.F_z18.kp T.b_z18 .nil j0s (j00 (j0c (j0q T) (hr.mono (by decide)) (by rfl) T.m_z21 T.F_z21.kp T.b_z21 .nil j0s (j00 (pv 3) (j00 (j0l j1n j09 (pv 0)) j02))) (j00 (pv 0) j02))) j09)))⟩))
   (j03 (j0n (i:=6) j20.nd rfl (by first | exact Or.inl rfl | exact Or.inr rfl) (j4c T.mk_Line (j66 T) (hr.mono (by decide)) (by rfl) T.m_Line T.b_z16 .nil j0s (j00 (pv 2) j02)))
   (j03 (j0n (i:=7) j20.nd rfl (by first | exact Or.inl rfl | exact Or.inr rfl) j09)
   (j03 (j2l (j0f (oEq hr) (j0l j1j (pv 1) j09) j09 (j0o _)) (j03 (j0n (i:=7) j20.nd rfl (by first | exact Or.inl rfl | exact Or.inr rfl) (j2o oIx (j1k (j00 j09 (j00 (j0l jd7 j09 j09) (j00 (j0l jd7 j09 j09) j02)))) (j0l j1j (j0l j2q (pv 1) j09) j09) (fun _ _=>rfl)))
   (j03 (j0t (i:=5) (["_law_k"]:List Str) (["_law_script"]:List Str) [0] j20.nd rfl (Or.inl rfl) rfl ⟨rfl,by decide +kernel,by decide +kernel,by rfl,⟨⟨rfl,by first | exact Or.inl rfl | exact Or.inr rfl,by first | exact Or.inl rfl | exact Or.inr rfl⟩,trivial⟩⟩ (j0w rfl T.n_range (j00 (j0l j1j (j0c (j0q T) (hr.mono (by decide)) (by rfl) T.m_z21 T.F_z21.kp T.b_z21 .nil j0s (j00 (pv 0) (j00 j09 j02))) j09) j02)) (fun _ _ _ _=>⟨(j0e (i:=0) (by show ((["_law_k"]:List Str)++(["_law_script"]:List Str)).Nodup;decide +kernel) rfl (by first | exact Or.inl rfl | exact Or.inr rfl)),(show PTs _ [] [] from trivial),(j0l j1n j09 (j0l j1j (j0c (j1s T) (hr.mono (by decide)) (by rfl) T.m_z18 T.F_z18.kp T.b_z18 .nil j0s (j00 (j0c (j0q T) (hr.mono (by decide)) (by rfl) T.m_z21 T.F_z21.kp T.b_z21 .nil j0s (j00 (pv 1) (j00 (j0l j1n j09 (pv 0)) j02))) (j00 (pv 0) j02))) j09))⟩))
   (j03 (j0n (i:=6) j20.nd rfl (by first | exact Or.inl rfl | exact Or.inr rfl) (j4c T.mk_Bags (j63 T) (hr.mono (by decide)) (by rfl) T.m_Bags T.b_z15 .nil j0s (j00 (pv 7) j02)))
   (j06 (j0n (i:=4) j20.nd rfl (by first | exact Or.inl rfl | exact Or.inr rfl) (j1v j02)))))) j0h)
   (j03 (j0n (i:=8) j20.nd rfl (by first | exact Or.inl rfl | exact Or.inr rfl) (j0c (j5a T) (hr.mono (by decide)) (by rfl) T.m_z14 T.F_z14.kp T.b_z14 .nil j0s (j00 (pv 4) (j00 (pv 5) (j00 (pv 7) j02)))))
   (j03 (j2l (j0f jfh (j2o oIx (pv 8) (jjv jd8 j09) (fun _ _=>rfl)) j09 (j0o _)) (j06 (j0d (j0c (j0z T) (hr.mono (by decide)) (by rfl) T.m_z0 T.F_z0.kp T.b_z0 .nil j0s (j00 (pv 6) (j00 (pv 4) (j00 (pv 5) j02)))))) j0h)
   (j03 (j0n (i:=9) j20.nd rfl (by first | exact Or.inl rfl | exact Or.inr rfl) (j0c (j5z T) (hr.mono (by decide)) (by rfl) T.m_z26 T.F_z26.kp T.b_z26 .nil j0s (j00 (pv 6) (j00 (pv 4) (j00 (j0j jgg (by rfl) T.n_list PyProof.Rows.boot_list (j00 (pv 5) j02)) j02)))))
   (j06 (j0d (j26 (j07 j8l (by rfl) T.n_isinstance PyProof.Rows.boot_isinstance (j00 (pv 9) (j00 (j19 (v:=V.ty "list") (by rfl) T.n_list PyProof.Rows.boot_list rfl) j02))) (j35 (j1u (oEq hr) (j2g (["_law_row"]:List Str) ([]:List Str) [] rfl ⟨rfl,by decide +kernel,by decide +kernel,by rfl,trivial⟩ (j1l (pv 9)) (fun _ _ _ _=>⟨(j0e (i:=0) (by show ((["_law_row"]:List Str)++([]:List Str)).Nodup;decide +kernel) rfl (by first | exact Or.inl rfl | exact Or.inr rfl)),(show PTs _ [] [] from trivial),(j07 j6s (by rfl) T.n_len PySem.boot_len (j00 (pv 0) j02))⟩)) (pv 8) (j0o _)))))))))))))))))),?_⟩
  walk_at "v"
  refine⟨p,cs,0,rfl,hS,by decide,hb,fun c0 hc0=>?_⟩
  walk_at "v"
  refine⟨_,_,rfl,by decide,by decide,fun h h0 h1=>?_⟩
  walk_at "v"
  refine iteD (fun z0=>?_) (fun z0=>?_)
  ·walk_at "v"
   exact⟨p,cs,h,rfl,hS,hb,h0,h1,.inl hTB,hq⟩
  obtain⟨m,em,m1,m4⟩:∃ m:Nat,1+h / 6 % 4=m∧1≤m∧m≤4:=⟨(1+h / 6 % 4).toNat,by omega,by omega,by omega⟩
  obtain⟨wd,hwd,w1,w2⟩:=at3a (h / 24)
  walk_at "v"
  rw[em]
  intro l1 H1 n1 q1 e1
  walk_at "v"
  refine jat q1 hwd ?_
  walk_at "v"
  refine⟨_,rfl,by omega,by omega,fun acc hn _ _ _ _=>j2w (fun _=>True) (by omega) hn (fun i H3 Y hi e hY=>?_) fun st H2 lx _ e2 ha=>?_⟩
  ·walk_at "v"
   exact hY _ _ trivial Ext.rfl'
  walk_at "v"
  refine j1c ha fun sp H3 n3 hsp e3=>?_
  have x3:=e1.tr (e2.tr e3)
  walk_at "v"
  refine⟨p,cs,1,rfl,x3.seqL hS,by decide,hb,fun c1 hc1=>?_⟩
  obtain⟨k,ek,k13⟩:∃ k:Nat,c1 % 13=k∧k < 13:=⟨(c1 % 13).toNat,by omega,by omega⟩
  walk_at "v"
  rw[ek]
  refine⟨_,rfl,by omega,by omega,fun wl hn4 _ _ _ _=>j2w (fun _=>True) (by omega) hn4 (fun i H5 Y hi e hY=>?_) fun ws H4 lw _ e4 hwl=>?_⟩
  ·walk_at "v"
   refine⟨p,cs,_,rfl,(x3.tr e).seqL hS,by omega,hb,fun c hc=>?_⟩
   walk_at "v"
   refine⟨_,_,rfl,by omega,by omega,fun n n0 n1=>?_⟩
   walk_at "v"
   exact hY _ _ trivial Ext.rfl'
  have x4:=x3.tr e4
  have hsp4:=e4 _ _ hsp
  walk_at "v"
  intro w dw k1 k2 k3
  refine⟨w,dw,.int (m:Nat),rfl,j04,fun H5 hw5 b5=>⟨rfl,?_⟩⟩
  have x5:Ext H4 H5:=fun b o h=>b5 b o (j05 h k1) (by rw[j08 (j05 h k1),j08 (j05 h k2)];exact h)
  walk_at "v"
  refine iteD (fun z1=>?_) (fun z1=>?_)
  ·obtain⟨R,hRat,R1⟩:=at3b (h / 24)
   walk_at "v"
   intro l6 H6 n6 q6 e6
   walk_at "v"
   refine jat q6 hRat ?_
   have x6:=x4.tr (x5.tr e6)
   walk_at "v"
   refine⟨p,cs,1,rfl,x6.seqL hS,by decide,hb,fun c1' hc1'=>?_⟩
   obtain⟨k',ek',k8⟩:∃ k':Nat,c1' % 8=k'∧k' < 8:=⟨(c1' % 8).toNat,by omega,by omega⟩
   walk_at "v"
   rw[ek']
   refine⟨_,rfl,by omega,by omega,fun wl hn7 _ _ _ _=>j2w (fun x=>1≤x∧x≤R) (by omega) hn7 (fun i H8 Y hi e hY=>?_) fun ws H7 lw hws e7 hwl=>?_⟩
   ·walk_at "v"
    refine⟨p,cs,_,rfl,(x6.tr e).seqL hS,by omega,hb,fun c hc=>?_⟩
    walk_at "v"
    refine⟨_,_,rfl,by omega,by omega,fun n n0 n1=>?_⟩
    walk_at "v"
    exact hY _ _ ⟨by omega,by omega⟩ Ext.rfl'
   walk_at "v"
   intro w dw' k1' k2' k3'
   refine⟨w,dw',.int R,rfl,j04,fun H8 hw8 b8=>⟨rfl,?_⟩⟩
   have x8:Ext H7 H8:=fun b o h=>b8 b o (j05 h k1') (by rw[j08 (j05 h k1'),j08 (j05 h k2')];exact h)
   walk_at "v"
   intro sp H9 n9 q9 e9
   have hw:G65.at_ a H9 (.bags R) w:=⟨dw',e9 _ _ hw8⟩
   have hsp:H9 sp=some (.tup (([]:List Int).map V.int)):=q9
   have hwl:=(x8.tr e9) _ _ hwl
   have hok:G65.ok (.bags R) 0 []:=⟨⟨List.Pairwise.nil,fun x hx=>by cases hx⟩,Nat.le_refl _⟩
   have hn:0+ws.length≤40:=by omega
   have hwk:∀ x∈ws,G65.okW (.bags R) x:=hws
   have hrm:G65.rm (.bags R) R:=⟨rfl,by omega⟩
   walk_at "v"
   refine⟨_,sp,wl,_,ws,_,_,rfl,hsp,hwl,hok,hn,hwk,hrm,fun lc Rs H7 q7 e7 hc=>?_⟩
   have lR:Rs.length≤41∧1≤Rs.length:=by
    rcases hc with hf | ⟨j,hf,e⟩
    ·have:=hf.1.ln
     omega
    ·have:=hf.1
     omega
   obtain⟨A,eA⟩:∃ A,Rs[Rs.length-1]?=some A:=⟨_,List.getElem?_eq_getElem (by omega)⟩
   walk_at "v"
   refine jat q7 (j21 (v:=V.int (A.length:Nat)) (by rw[List.length_map];omega) (by rw[List.length_map,List.getElem?_map,eA];rfl)) ?_
   walk_at "v"
   refine iteD (fun c=>?_) (fun c=>?_)
   ·walk_at "v"
    rcases hc with hf | ⟨j,hf,e⟩
    ·exfalso
     have l2:=hf.1.ln
     have:=hf.2 ws.length (Nat.le_refl _)
     rw[List.getD_eq_getElem?_getD,show ws.length=Rs.length-1 by omega,eA,Option.getD_some] at this
     omega
    ·exact⟨w,sp,wl,_,rfl,e7 _ _ hwl,.inl ⟨_,_,ws,_,j,Rs,rfl,G65.mono e7 hw,e7 _ _ hsp,hok,hn,hwk,hf⟩,fun H' _=>hq H'⟩
   ·rcases hc with hf | ⟨j,hf,e⟩
    ·walk_at "v"
     refine j6m (e7 _ _ hwl) fun l8 H8 n8 q8 e8=>?_
     walk_at "v"
     refine⟨w,sp,l8,rfl,.inl ⟨_,_,ws,_,G65.mono (e7.tr e8) hw,(e7.tr e8) _ _ hsp,q8,hok,hn,hwk,.inl ⟨Rs,hf,fun l9 zs H9 n9 q9 lz e9=>?_⟩⟩⟩
     obtain⟨lz1,lz2⟩:=lz
     rw[List.length_map] at lz1
     walk_at "v"
     refine jcc (HasK.l q9) ?_
     walk_at "v"
     refine⟨l9,rfl,⟨_,SqL.of q9⟩,fun acc hn _ _ _ _=>j0x (SqL.of q9) (by omega) hn (fun j ys _=>ys=(Rs.take j).map fun A=>V.int (A.length:Nat)) rfl (fun _ _ _ _ _ h=>h) (fun j ys H' _ h=>by rw[h,List.length_map,List.length_take];omega) ?_ ?_⟩
     ·rintro j y ys H10 hy e rfl Y N hY hN
      obtain⟨pp,xs,rfl,k2,k3⟩:=lz2 j y hy
      have hj:j < Rs.length:=by have:=(List.getElem?_eq_some_iff.mp hy).1;omega
      rw[List.getD_eq_getElem?_getD,List.getElem?_map,List.getElem?_eq_getElem hj] at k3
      walk_at "v"
      refine j6u (e _ _ k2) ?_
      refine hY _ _ Ext.rfl' ?_
      rw[List.take_add_one,List.getElem?_eq_getElem hj,List.map_append,k3]
      rfl
     ·rintro ys H10 e10 ha rfl
      rw[lz1,List.take_length] at ha
      have el:(Rs.map fun A=>V.int (A.length:Nat))=(Rs.map fun A=>(A.length:Int)).map V.int:=by rw[List.map_map];rfl
      rw[el] at ha q7
      walk_at "v"
      refine jh1 ha ((e8.tr (e9.tr e10)) _ _ q7) ?_
      rw[decide_eq_true rfl]
      exact hq H10
    ·exfalso
     have l2:=hf.2.2
     rw[List.getD_eq_getElem?_getD,show j=Rs.length-1 by omega,eA,Option.getD_some] at l2
     omega
  ·have hw:G65.at_ a H5 .line w:=⟨dw,_,hw5⟩
   have hsp:=x5 _ _ hsp4
   have hwl:=x5 _ _ hwl
   have hok:G65.ok .line 0 st:=⟨by omega,by omega⟩
   have hn:0+ws.length≤40:=by omega
   have hwk:∀ x∈ws,G65.okW .line x:=fun _ _=>trivial
   have hrm:G65.rm .line 0:=rfl
   walk_at "v"
   refine⟨_,sp,wl,_,ws,_,_,rfl,hsp,hwl,hok,hn,hwk,hrm,fun lc Rs H7 q7 e7 hc=>?_⟩
   have lR:Rs.length≤41∧1≤Rs.length:=by
    rcases hc with hf | ⟨j,hf,e⟩
    ·have:=hf.1.ln
     omega
    ·have:=hf.1
     omega
   obtain⟨A,eA⟩:∃ A,Rs[Rs.length-1]?=some A:=⟨_,List.getElem?_eq_getElem (by omega)⟩
   walk_at "v"
   refine jat q7 (j21 (v:=V.int (A.length:Nat)) (by rw[List.length_map];omega) (by rw[List.length_map,List.getElem?_map,eA];rfl)) ?_
   walk_at "v"
   refine iteD (fun c=>?_) (fun c=>?_)
   ·walk_at "v"
    rcases hc with hf | ⟨j,hf,e⟩
    ·exfalso
     have l2:=hf.1.ln
     have:=hf.2 ws.length (Nat.le_refl _)
     rw[List.getD_eq_getElem?_getD,show ws.length=Rs.length-1 by omega,eA,Option.getD_some] at this
     omega
    ·exact⟨w,sp,wl,_,rfl,e7 _ _ hwl,.inl ⟨_,_,ws,_,j,Rs,rfl,G65.mono e7 hw,e7 _ _ hsp,hok,hn,hwk,hf⟩,fun H' _=>hq H'⟩
   ·rcases hc with hf | ⟨j,hf,e⟩
    ·walk_at "v"
     refine j6m (e7 _ _ hwl) fun l8 H8 n8 q8 e8=>?_
     walk_at "v"
     refine⟨w,sp,l8,rfl,.inl ⟨_,_,ws,_,G65.mono (e7.tr e8) hw,(e7.tr e8) _ _ hsp,q8,hok,hn,hwk,.inl ⟨Rs,hf,fun l9 zs H9 n9 q9 lz e9=>?_⟩⟩⟩
     obtain⟨lz1,lz2⟩:=lz
     rw[List.length_map] at lz1
     walk_at "v"
     refine jcc (HasK.l q9) ?_
     walk_at "v"
     refine⟨l9,rfl,⟨_,SqL.of q9⟩,fun acc hn _ _ _ _=>j0x (SqL.of q9) (by omega) hn (fun j ys _=>ys=(Rs.take j).map fun A=>V.int (A.length:Nat)) rfl (fun _ _ _ _ _ h=>h) (fun j ys H' _ h=>by rw[h,List.length_map,List.length_take];omega) ?_ ?_⟩
     ·rintro j y ys H10 hy e rfl Y N hY hN
      obtain⟨pp,xs,rfl,k2,k3⟩:=lz2 j y hy
      have hj:j < Rs.length:=by have:=(List.getElem?_eq_some_iff.mp hy).1;omega
      rw[List.getD_eq_getElem?_getD,List.getElem?_map,List.getElem?_eq_getElem hj] at k3
      walk_at "v"
      refine j6u (e _ _ k2) ?_
      refine hY _ _ Ext.rfl' ?_
      rw[List.take_add_one,List.getElem?_eq_getElem hj,List.map_append,k3]
      rfl
     ·rintro ys H10 e10 ha rfl
      rw[lz1,List.take_length] at ha
      have el:(Rs.map fun A=>V.int (A.length:Nat))=(Rs.map fun A=>(A.length:Int)).map V.int:=by rw[List.map_map];rfl
      rw[el] at ha q7
      walk_at "v"
      refine jh1 ha ((e8.tr (e9.tr e10)) _ _ q7) ?_
      rw[decide_eq_true rfl]
      exact hq H10
    ·exfalso
     have l2:=hf.2.2
     rw[List.getD_eq_getElem?_getD,show j=Rs.length-1 by omega,eA,Option.getD_some] at l2
     omega
end
theorem all_mk {ts:List Addr}{l:PySem.W.OpenLaw}{w:World}{K:PySem.W.Frag}{h:Heap}{mg:Str→Option Value}{fa:Addr} (X:K.In h) (G:h.Ns mainGlobals mg) (hfa:mg "law"=some (.ref fa))
  {f_z29:Addr}{od_z29 an_z29:Option Addr}{sl_z29:Array (Option Value)}{oc_z29 kV_z29 dc_z29 pm_z29 jj5 ct_z29:Value}
  {f_z26:Addr}{od_z26 an_z26:Option Addr}{sl_z26:Array (Option Value)}{oc_z26 kV_z26 dc_z26 pm_z26 jj3 ct_z26:Value}
  {f_z8:Addr}{od_z8 an_z8:Option Addr}{sl_z8:Array (Option Value)}{oc_z8 kV_z8 dc_z8 pm_z8 cd_z8 ct_z8:Value}
  {f_z23:Addr}{od_z23 an_z23:Option Addr}{sl_z23:Array (Option Value)}{oc_z23 kV_z23 dc_z23 pm_z23 jj0 ct_z23:Value}
  {f_z1:Addr}{od_z1 an_z1:Option Addr}{sl_z1:Array (Option Value)}{oc_z1 kV_z1 dc_z1 pm_z1 cd_z1 ct_z1:Value}
  {f_z6:Addr}{od_z6 an_z6:Option Addr}{sl_z6:Array (Option Value)}{oc_z6 kV_z6 dc_z6 pm_z6 cd_z6 ct_z6:Value}
  {f_z11:Addr}{od_z11 an_z11:Option Addr}{sl_z11:Array (Option Value)}{oc_z11 kV_z11 dc_z11 pm_z11 jio ct_z11:Value}
  {f_z3:Addr}{od_z3 an_z3:Option Addr}{sl_z3:Array (Option Value)}{oc_z3 kV_z3 dc_z3 pm_z3 cd_z3 ct_z3:Value}
  {f_z12:Addr}{od_z12 an_z12:Option Addr}{sl_z12:Array (Option Value)}{oc_z12 kV_z12 dc_z12 pm_z12 jip ct_z12:Value}
  {f_z5:Addr}{od_z5 an_z5:Option Addr}{sl_z5:Array (Option Value)}{oc_z5 kV_z5 dc_z5 pm_z5 cd_z5 ct_z5:Value}
  {f_z10:Addr}{od_z10 an_z10:Option Addr}{sl_z10:Array (Option Value)}{oc_z10 kV_z10 dc_z10 pm_z10 jin ct_z10:Value}
  {f_z24:Addr}{od_z24 an_z24:Option Addr}{sl_z24:Array (Option Value)}{oc_z24 kV_z24 dc_z24 pm_z24 jj1 ct_z24:Value}
  {f_z25:Addr}{od_z25 an_z25:Option Addr}{sl_z25:Array (Option Value)}{oc_z25 kV_z25 dc_z25 pm_z25 jj2 ct_z25:Value}
  {f_z28:Addr}{od_z28 an_z28:Option Addr}{sl_z28:Array (Option Value)}{oc_z28 kV_z28 dc_z28 pm_z28 jj4 ct_z28:Value}
  {f_z9:Addr}{od_z9 an_z9:Option Addr}{sl_z9:Array (Option Value)}{oc_z9 kV_z9 dc_z9 pm_z9 cd_z9 ct_z9:Value}
  {f_z2:Addr}{od_z2 an_z2:Option Addr}{sl_z2:Array (Option Value)}{oc_z2 kV_z2 dc_z2 pm_z2 cd_z2 ct_z2:Value}
  {f_z0:Addr}{od_z0 an_z0:Option Addr}{sl_z0:Array (Option Value)}{oc_z0 kV_z0 dc_z0 pm_z0 cd_z0 ct_z0:Value}
  {f_z7:Addr}{od_z7 an_z7:Option Addr}{sl_z7:Array (Option Value)}{oc_z7 kV_z7 dc_z7 pm_z7 cd_z7 ct_z7:Value}
  {f_z27:Addr}{od_z27 an_z27:Option Addr}{sl_z27:Array (Option Value)}{oc_z27 kV_z27 dc_z27 pm_z27 ct_z27:Value}
  {ck_z27 tb_z27:Addr}{cdd_best:Option Addr}{cvs_best:Array Value}{csl_best:Array (Option Value)}
  {f_z14:Addr}{od_z14 an_z14:Option Addr}{sl_z14:Array (Option Value)}{oc_z14 kV_z14 dc_z14 pm_z14 jir ct_z14:Value}
  {f_z17:Addr}{od_z17 an_z17:Option Addr}{sl_z17:Array (Option Value)}{oc_z17 kV_z17 dc_z17 pm_z17 jiu ct_z17:Value}
  {f_z15:Addr}{od_z15 an_z15:Option Addr}{sl_z15:Array (Option Value)}{oc_z15 kV_z15 dc_z15 pm_z15 jis ct_z15:Value}
  {f_z21:Addr}{od_z21 an_z21:Option Addr}{sl_z21:Array (Option Value)}{oc_z21 kV_z21 dc_z21 pm_z21 jiy ct_z21:Value}
  {f_z18:Addr}{od_z18 an_z18:Option Addr}{sl_z18:Array (Option Value)}{oc_z18 kV_z18 dc_z18 pm_z18 jiv ct_z18:Value}
  {f_z16:Addr}{od_z16 an_z16:Option Addr}{sl_z16:Array (Option Value)}{oc_z16 kV_z16 dc_z16 pm_z16 jit ct_z16:Value}
  {f_z19:Addr}{od_z19 an_z19:Option Addr}{sl_z19:Array (Option Value)}{oc_z19 kV_z19 dc_z19 pm_z19 jiw ct_z19:Value}
  {f_z22:Addr}{od_z22 an_z22:Option Addr}{sl_z22:Array (Option Value)}{oc_z22 kV_z22 dc_z22 pm_z22 jiz ct_z22:Value}
  {f_z20:Addr}{od_z20 an_z20:Option Addr}{sl_z20:Array (Option Value)}{oc_z20 kV_z20 dc_z20 pm_z20 jix ct_z20:Value}
  {f_z4:Addr}{od_z4 an_z4:Option Addr}{sl_z4:Array (Option Value)}{oc_z4 kV_z4 dc_z4 pm_z4 cd_z4 ct_z4:Value}
  {f_z13:Addr}{od_z13 an_z13:Option Addr}{sl_z13:Array (Option Value)}{oc_z13 kV_z13 dc_z13 pm_z13 jiq ct_z13:Value}
  {c_LateError:Addr}
  {c_NoState:Addr}
  {c_NoWish:Addr}
  {c_NoText:Addr}
  {c_TooGreat:Addr}
  {c_World:Addr}
  {c_Bags:Addr}
  {c_Line:Addr}
  {c_Shelf:Addr}
  {dt_LateError_init:Addr}{j2e:Value}{dd_LateError_init:Option Addr}{dn_LateError_init:Nat}{ds_LateError_init:Array (Option Value)}
  {nm_LateError qn_LateError:Str}{N_LateError:Addr}{bs_LateError:List Value}{sn_LateError:List Str}{sub_LateError:List Value}{ab_LateError:Bool}{col_LateError:Option Bool}{dd_LateError:Option Addr}{k0_LateError k1_LateError k2_LateError k3_LateError k5_LateError:Option Value}
  {nm_TooGreat qn_TooGreat:Str}{N_TooGreat:Addr}{bs_TooGreat:List Value}{sn_TooGreat:List Str}{sub_TooGreat:List Value}{ab_TooGreat:Bool}{col_TooGreat:Option Bool}{dd_TooGreat:Option Addr}{k0_TooGreat k1_TooGreat k2_TooGreat k3_TooGreat k5_TooGreat:Option Value}
  {t_MOST_STATES:Tok}
  {t_MOST_BAGS:Tok}
  (aC_LateError:PySem.W.nsIn K mainGlobals "LateError"=some (some (.ref c_LateError)))
  (aC_NoState:PySem.W.nsIn K mainGlobals "NoState"=some (some (.ref c_NoState)))
  (aC_NoWish:PySem.W.nsIn K mainGlobals "NoWish"=some (some (.ref c_NoWish)))
  (aC_NoText:PySem.W.nsIn K mainGlobals "NoText"=some (some (.ref c_NoText)))
  (aC_TooGreat:PySem.W.nsIn K mainGlobals "TooGreat"=some (some (.ref c_TooGreat)))
  (aC_World:PySem.W.nsIn K mainGlobals "World"=some (some (.ref c_World)))
  (aC_Bags:PySem.W.nsIn K mainGlobals "Bags"=some (some (.ref c_Bags)))
  (aC_Line:PySem.W.nsIn K mainGlobals "Line"=some (some (.ref c_Line)))
  (aC_Shelf:PySem.W.nsIn K mainGlobals "Shelf"=some (some (.ref c_Shelf)))
  (a_z29:PySem.W.nsIn K mainGlobals "law"=some (some (.ref f_z29)))
  (l_z29:K.lookup f_z29=some ⟨oc_z29,od_z29,.func (PySem.W.fnOf "law" "law" (j0b s_z29) (j0a s_z29) (j01 s_z29) (.none) kV_z29 dc_z29 pm_z29 an_z29 jj5 ct_z29),sl_z29⟩)
  (k_z29:PySem.W.codeIn K jj5 "law"=true)
  (p_z29:PySem.W.keepIn K (.ref f_z29)=true)
  (a_z26:PySem.W.nsIn K mainGlobals "table"=some (some (.ref f_z26)))
  (l_z26:K.lookup f_z26=some ⟨oc_z26,od_z26,.func (PySem.W.fnOf "table" "table" (j0b s_z26) (j0a s_z26) (j01 s_z26) (.none) kV_z26 dc_z26 pm_z26 an_z26 jj3 ct_z26),sl_z26⟩)
  (k_z26:PySem.W.codeIn K jj3 "table"=true)
  (p_z26:PySem.W.keepIn K (.ref f_z26)=true)
  (a_z8:PySem.W.nsIn K mainGlobals "traced_rows"=some (some (.ref f_z8)))
  (l_z8:K.lookup f_z8=some ⟨oc_z8,od_z8,.func (PySem.W.fnOf "traced_rows" "traced_rows" (j0b s_z8) (j0a s_z8) (j01 s_z8) (.none) kV_z8 dc_z8 pm_z8 an_z8 cd_z8 ct_z8),sl_z8⟩)
  (k_z8:PySem.W.codeIn K cd_z8 "traced_rows"=true)
  (p_z8:PySem.W.keepIn K (.ref f_z8)=true)
  (a_z23:PySem.W.nsIn K mainGlobals "reached"=some (some (.ref f_z23)))
  (l_z23:K.lookup f_z23=some ⟨oc_z23,od_z23,.func (PySem.W.fnOf "reached" "reached" (j0b s_z23) (j0a s_z23) (j01 s_z23) (.none) kV_z23 dc_z23 pm_z23 an_z23 jj0 ct_z23),sl_z23⟩)
  (k_z23:PySem.W.codeIn K jj0 "reached"=true)
  (p_z23:PySem.W.keepIn K (.ref f_z23)=true)
  (a_z1:PySem.W.findIn K (.ref c_LateError) "__init__"=some (some (.ref f_z1)))
  (l_z1:K.lookup f_z1=some ⟨oc_z1,od_z1,.func (PySem.W.fnOf "__init__" "LateError.__init__" (j0b s_z1) (j0a s_z1) (j01 s_z1) (.ref dt_LateError_init) kV_z1 dc_z1 pm_z1 an_z1 cd_z1 ct_z1),sl_z1⟩)
  (q_LateError_init:K.lookup dt_LateError_init=some ⟨j2e,dd_LateError_init,.seq ([.none]:List Value).toArray dn_LateError_init,ds_LateError_init⟩)
  (k_z1:PySem.W.codeIn K cd_z1 "LateError.__init__"=true)
  (p_z1:PySem.W.keepIn K (.ref f_z1)=true)
  (a_z6:PySem.W.findIn K (.ref c_Shelf) "moves"=some (some (.ref f_z6)))
  (l_z6:K.lookup f_z6=some ⟨oc_z6,od_z6,.func (PySem.W.fnOf "moves" "Shelf.moves" (j0b s_z6) (j0a s_z6) (j01 s_z6) (.none) kV_z6 dc_z6 pm_z6 an_z6 cd_z6 ct_z6),sl_z6⟩)
  (k_z6:PySem.W.codeIn K cd_z6 "Shelf.moves"=true)
  (p_z6:PySem.W.keepIn K (.ref f_z6)=true)
  (a_z11:PySem.W.findIn K (.ref c_Line) "moves"=some (some (.ref f_z11)))
  (l_z11:K.lookup f_z11=some ⟨oc_z11,od_z11,.func (PySem.W.fnOf "moves" "Line.moves" (j0b s_z11) (j0a s_z11) (j01 s_z11) (.none) kV_z11 dc_z11 pm_z11 an_z11 jio ct_z11),sl_z11⟩)
  (k_z11:PySem.W.codeIn K jio "Line.moves"=true)
  (p_z11:PySem.W.keepIn K (.ref f_z11)=true)
  (a_z3:PySem.W.findIn K (.ref c_World) "priced"=some (some (.ref f_z3)))
  (l_z3:K.lookup f_z3=some ⟨oc_z3,od_z3,.func (PySem.W.fnOf "priced" "World.priced" (j0b s_z3) (j0a s_z3) (j01 s_z3) (.none) kV_z3 dc_z3 pm_z3 an_z3 cd_z3 ct_z3),sl_z3⟩)
  (k_z3:PySem.W.codeIn K cd_z3 "World.priced"=true)
  (p_z3:PySem.W.keepIn K (.ref f_z3)=true)
  (a_z12:PySem.W.findIn K (.ref c_Line) "price"=some (some (.ref f_z12)))
  (l_z12:K.lookup f_z12=some ⟨oc_z12,od_z12,.func (PySem.W.fnOf "price" "Line.price" (j0b s_z12) (j0a s_z12) (j01 s_z12) (.none) kV_z12 dc_z12 pm_z12 an_z12 jip ct_z12),sl_z12⟩)
  (k_z12:PySem.W.codeIn K jip "Line.price"=true)
  (p_z12:PySem.W.keepIn K (.ref f_z12)=true)
  (a_z5:PySem.W.nsIn K mainGlobals "ways_between"=some (some (.ref f_z5)))
  (l_z5:K.lookup f_z5=some ⟨oc_z5,od_z5,.func (PySem.W.fnOf "ways_between" "ways_between" (j0b s_z5) (j0a s_z5) (j01 s_z5) (.none) kV_z5 dc_z5 pm_z5 an_z5 cd_z5 ct_z5),sl_z5⟩)
  (k_z5:PySem.W.codeIn K cd_z5 "ways_between"=true)
  (p_z5:PySem.W.keepIn K (.ref f_z5)=true)
  (a_z10:PySem.W.findIn K (.ref c_Bags) "price"=some (some (.ref f_z10)))
  (l_z10:K.lookup f_z10=some ⟨oc_z10,od_z10,.func (PySem.W.fnOf "price" "Bags.price" (j0b s_z10) (j0a s_z10) (j01 s_z10) (.none) kV_z10 dc_z10 pm_z10 an_z10 jin ct_z10),sl_z10⟩)
  (k_z10:PySem.W.codeIn K jin "Bags.price"=true)
  (p_z10:PySem.W.keepIn K (.ref f_z10)=true)
  (a_z24:PySem.W.nsIn K mainGlobals "filled"=some (some (.ref f_z24)))
  (l_z24:K.lookup f_z24=some ⟨oc_z24,od_z24,.func (PySem.W.fnOf "filled" "filled" (j0b s_z24) (j0a s_z24) (j01 s_z24) (.none) kV_z24 dc_z24 pm_z24 an_z24 jj1 ct_z24),sl_z24⟩)
  (k_z24:PySem.W.codeIn K jj1 "filled"=true)
  (p_z24:PySem.W.keepIn K (.ref f_z24)=true)
  (a_z25:PySem.W.nsIn K mainGlobals "opened"=some (some (.ref f_z25)))
  (l_z25:K.lookup f_z25=some ⟨oc_z25,od_z25,.func (PySem.W.fnOf "opened" "opened" (j0b s_z25) (j0a s_z25) (j01 s_z25) (.none) kV_z25 dc_z25 pm_z25 an_z25 jj2 ct_z25),sl_z25⟩)
  (k_z25:PySem.W.codeIn K jj2 "opened"=true)
  (p_z25:PySem.W.keepIn K (.ref f_z25)=true)
  (a_z28:PySem.W.nsIn K mainGlobals "sent"=some (some (.ref f_z28)))
  (l_z28:K.lookup f_z28=some ⟨oc_z28,od_z28,.func (PySem.W.fnOf "sent" "sent" (j0b s_z28) (j0a s_z28) (j01 s_z28) (.none) kV_z28 dc_z28 pm_z28 an_z28 jj4 ct_z28),sl_z28⟩)
  (k_z28:PySem.W.codeIn K jj4 "sent"=true)
  (p_z28:PySem.W.keepIn K (.ref f_z28)=true)
  (a_z9:PySem.W.findIn K (.ref c_Bags) "moves"=some (some (.ref f_z9)))
  (l_z9:K.lookup f_z9=some ⟨oc_z9,od_z9,.func (PySem.W.fnOf "moves" "Bags.moves" (j0b s_z9) (j0a s_z9) (j01 s_z9) (.none) kV_z9 dc_z9 pm_z9 an_z9 cd_z9 ct_z9),sl_z9⟩)
  (k_z9:PySem.W.codeIn K cd_z9 "Bags.moves"=true)
  (p_z9:PySem.W.keepIn K (.ref f_z9)=true)
  (a_z2:PySem.W.nsIn K mainGlobals "without_trace"=some (some (.ref f_z2)))
  (l_z2:K.lookup f_z2=some ⟨oc_z2,od_z2,.func (PySem.W.fnOf "without_trace" "without_trace" (j0b s_z2) (j0a s_z2) (j01 s_z2) (.none) kV_z2 dc_z2 pm_z2 an_z2 cd_z2 ct_z2),sl_z2⟩)
  (k_z2:PySem.W.codeIn K cd_z2 "without_trace"=true)
  (p_z2:PySem.W.keepIn K (.ref f_z2)=true)
  (a_z0:PySem.W.nsIn K mainGlobals "_law_both_refused"=some (some (.ref f_z0)))
  (l_z0:K.lookup f_z0=some ⟨oc_z0,od_z0,.func (PySem.W.fnOf "_law_both_refused" "_law_both_refused" (j0b s_z0) (j0a s_z0) (j01 s_z0) (.none) kV_z0 dc_z0 pm_z0 an_z0 cd_z0 ct_z0),sl_z0⟩)
  (k_z0:PySem.W.codeIn K cd_z0 "_law_both_refused"=true)
  (p_z0:PySem.W.keepIn K (.ref f_z0)=true)
  (a_z7:PySem.W.nsIn K mainGlobals "_law_refused"=some (some (.ref f_z7)))
  (l_z7:K.lookup f_z7=some ⟨oc_z7,od_z7,.func (PySem.W.fnOf "_law_refused" "_law_refused" (j0b s_z7) (j0a s_z7) (j01 s_z7) (.none) kV_z7 dc_z7 pm_z7 an_z7 cd_z7 ct_z7),sl_z7⟩)
  (k_z7:PySem.W.codeIn K cd_z7 "_law_refused"=true)
  (p_z7:PySem.W.keepIn K (.ref f_z7)=true)
  (a_z27:PySem.W.nsIn K mainGlobals "best"=some (some (.ref f_z27)))
  (l_z27:K.lookup f_z27=some ⟨oc_z27,od_z27,.func (PySem.W.fnOf "best" "best" (j0b s_z27) (j0a s_z27) (j01 s_z27) (.none) kV_z27 dc_z27 pm_z27 an_z27 (.ref ck_z27) ct_z27),sl_z27⟩)
  (lc_best:K.lookup ck_z27=some ⟨.type "code",cdd_best,.fields cvs_best,csl_best⟩)
  (pt_best:cvs_best[11]?=some (.ref tb_z27))
  (hd_best:PySem.W.codeHdIn K ck_z27 tb_z27=true)
  (tc_best:ts.contains tb_z27=true)
  (k_z27:PySem.W.codeIn K (.ref ck_z27) "best"=true)
  (p_z27:PySem.W.keepIn K (.ref f_z27)=true)
  (a_z14:PySem.W.nsIn K mainGlobals "_law_counts"=some (some (.ref f_z14)))
  (l_z14:K.lookup f_z14=some ⟨oc_z14,od_z14,.func (PySem.W.fnOf "_law_counts" "_law_counts" (j0b s_z14) (j0a s_z14) (j01 s_z14) (.none) kV_z14 dc_z14 pm_z14 an_z14 jir ct_z14),sl_z14⟩)
  (k_z14:PySem.W.codeIn K jir "_law_counts"=true)
  (p_z14:PySem.W.keepIn K (.ref f_z14)=true)
  (a_z17:PySem.W.nsIn K mainGlobals "_law_after"=some (some (.ref f_z17)))
  (l_z17:K.lookup f_z17=some ⟨oc_z17,od_z17,.func (PySem.W.fnOf "_law_after" "_law_after" (j0b s_z17) (j0a s_z17) (j01 s_z17) (.none) kV_z17 dc_z17 pm_z17 an_z17 jiu ct_z17),sl_z17⟩)
  (k_z17:PySem.W.codeIn K jiu "_law_after"=true)
  (p_z17:PySem.W.keepIn K (.ref f_z17)=true)
  (a_z15:PySem.W.findIn K (.ref c_Bags) "__init__"=some (some (.ref f_z15)))
  (l_z15:K.lookup f_z15=some ⟨oc_z15,od_z15,.func (PySem.W.fnOf "__init__" "Bags.__init__" (j0b s_z15) (j0a s_z15) (j01 s_z15) (.none) kV_z15 dc_z15 pm_z15 an_z15 jis ct_z15),sl_z15⟩)
  (k_z15:PySem.W.codeIn K jis "Bags.__init__"=true)
  (p_z15:PySem.W.keepIn K (.ref f_z15)=true)
  (a_z21:PySem.W.nsIn K mainGlobals "_law_cell"=some (some (.ref f_z21)))
  (l_z21:K.lookup f_z21=some ⟨oc_z21,od_z21,.func (PySem.W.fnOf "_law_cell" "_law_cell" (j0b s_z21) (j0a s_z21) (j01 s_z21) (.none) kV_z21 dc_z21 pm_z21 an_z21 jiy ct_z21),sl_z21⟩)
  (k_z21:PySem.W.codeIn K jiy "_law_cell"=true)
  (p_z21:PySem.W.keepIn K (.ref f_z21)=true)
  (a_z18:PySem.W.nsIn K mainGlobals "_law_mixed"=some (some (.ref f_z18)))
  (l_z18:K.lookup f_z18=some ⟨oc_z18,od_z18,.func (PySem.W.fnOf "_law_mixed" "_law_mixed" (j0b s_z18) (j0a s_z18) (j01 s_z18) (.none) kV_z18 dc_z18 pm_z18 an_z18 jiv ct_z18),sl_z18⟩)
  (k_z18:PySem.W.codeIn K jiv "_law_mixed"=true)
  (p_z18:PySem.W.keepIn K (.ref f_z18)=true)
  (a_z16:PySem.W.findIn K (.ref c_Line) "__init__"=some (some (.ref f_z16)))
  (l_z16:K.lookup f_z16=some ⟨oc_z16,od_z16,.func (PySem.W.fnOf "__init__" "Line.__init__" (j0b s_z16) (j0a s_z16) (j01 s_z16) (.none) kV_z16 dc_z16 pm_z16 an_z16 jit ct_z16),sl_z16⟩)
  (k_z16:PySem.W.codeIn K jit "Line.__init__"=true)
  (p_z16:PySem.W.keepIn K (.ref f_z16)=true)
  (a_z19:PySem.W.nsIn K mainGlobals "_law_shelf"=some (some (.ref f_z19)))
  (l_z19:K.lookup f_z19=some ⟨oc_z19,od_z19,.func (PySem.W.fnOf "_law_shelf" "_law_shelf" (j0b s_z19) (j0a s_z19) (j01 s_z19) (.none) kV_z19 dc_z19 pm_z19 an_z19 jiw ct_z19),sl_z19⟩)
  (k_z19:PySem.W.codeIn K jiw "_law_shelf"=true)
  (p_z19:PySem.W.keepIn K (.ref f_z19)=true)
  (a_z22:PySem.W.nsIn K mainGlobals "_law_same"=some (some (.ref f_z22)))
  (l_z22:K.lookup f_z22=some ⟨oc_z22,od_z22,.func (PySem.W.fnOf "_law_same" "_law_same" (j0b s_z22) (j0a s_z22) (j01 s_z22) (.none) kV_z22 dc_z22 pm_z22 an_z22 jiz ct_z22),sl_z22⟩)
  (k_z22:PySem.W.codeIn K jiz "_law_same"=true)
  (p_z22:PySem.W.keepIn K (.ref f_z22)=true)
  (a_z20:PySem.W.nsIn K mainGlobals "_law_whole"=some (some (.ref f_z20)))
  (l_z20:K.lookup f_z20=some ⟨oc_z20,od_z20,.func (PySem.W.fnOf "_law_whole" "_law_whole" (j0b s_z20) (j0a s_z20) (j01 s_z20) (.none) kV_z20 dc_z20 pm_z20 an_z20 jix ct_z20),sl_z20⟩)
  (k_z20:PySem.W.codeIn K jix "_law_whole"=true)
  (p_z20:PySem.W.keepIn K (.ref f_z20)=true)
  (a_z4:PySem.W.nsIn K mainGlobals "_law_all_same"=some (some (.ref f_z4)))
  (l_z4:K.lookup f_z4=some ⟨oc_z4,od_z4,.func (PySem.W.fnOf "_law_all_same" "_law_all_same" (j0b s_z4) (j0a s_z4) (j01 s_z4) (.none) kV_z4 dc_z4 pm_z4 an_z4 cd_z4 ct_z4),sl_z4⟩)
  (k_z4:PySem.W.codeIn K cd_z4 "_law_all_same"=true)
  (p_z4:PySem.W.keepIn K (.ref f_z4)=true)
  (a_z13:PySem.W.findIn K (.ref c_Shelf) "__init__"=some (some (.ref f_z13)))
  (l_z13:K.lookup f_z13=some ⟨oc_z13,od_z13,.func (PySem.W.fnOf "__init__" "Shelf.__init__" (j0b s_z13) (j0a s_z13) (j01 s_z13) (.none) kV_z13 dc_z13 pm_z13 an_z13 jiq ct_z13),sl_z13⟩)
  (k_z13:PySem.W.codeIn K jiq "Shelf.__init__"=true)
  (p_z13:PySem.W.keepIn K (.ref f_z13)=true)
  (xl_LateError:K.lookup c_LateError=some (excClassObj nm_LateError qn_LateError c_LateError N_LateError bs_LateError bmV true sn_LateError sub_LateError ab_LateError col_LateError dd_LateError k0_LateError k1_LateError k2_LateError k3_LateError k5_LateError "ValueError.__new__"))
  (xi_LateError:PySem.W.findIn K (.ref c_LateError) "__init__"=some (some (.ref f_z1)))
  (xf_LateError:PySem.W.isFn K (.ref f_z1)=true)
  (xk_LateError:PySem.W.keepIn K (.ref c_LateError)=true)
  (xs_LateError:PySem.W.findIn K (.ref c_LateError) "__setattr__"=some (some (.builtin "object.__setattr__")))
  (xr_LateError:PySem.W.findIn K (.ref c_LateError) "row"=some none)
  (xg_LateError:PySem.W.findIn K (.ref c_LateError) "__getattribute__"=some (some (.builtin "BaseException.__getattribute__")))
  (xh_LateError:PySem.W.findIn K (.ref c_LateError) "__getattr__"=some none)
  (xc_LateError:PySem.W.findIn K (.ref c_LateError) "__class__"=some (some (.builtin "object.__class__")))
  (xn_LateError:PySem.W.specialIn K (.builtin "object.__class__") "__get__"=some (some (.builtin "getset_descriptor.__get__")))
  (xt_LateError:PySem.W.takesIn K (.builtin "object.__class__")=some true)
  (xm_LateError:PySem.W.mroIn K c_LateError (.type "object")=some true)
  (xl_TooGreat:K.lookup c_TooGreat=some (excClassObj nm_TooGreat qn_TooGreat c_TooGreat N_TooGreat bs_TooGreat (.ref c_LateError :: bmV) true sn_TooGreat sub_TooGreat ab_TooGreat col_TooGreat dd_TooGreat k0_TooGreat k1_TooGreat k2_TooGreat k3_TooGreat k5_TooGreat "ValueError.__new__"))
  (xi_TooGreat:PySem.W.findIn K (.ref c_TooGreat) "__init__"=some (some (.ref f_z1)))
  (xf_TooGreat:PySem.W.isFn K (.ref f_z1)=true)
  (xk_TooGreat:PySem.W.keepIn K (.ref c_TooGreat)=true)
  (xs_TooGreat:PySem.W.findIn K (.ref c_TooGreat) "__setattr__"=some (some (.builtin "object.__setattr__")))
  (xr_TooGreat:PySem.W.findIn K (.ref c_TooGreat) "row"=some none)
  (xg_TooGreat:PySem.W.findIn K (.ref c_TooGreat) "__getattribute__"=some (some (.builtin "BaseException.__getattribute__")))
  (xh_TooGreat:PySem.W.findIn K (.ref c_TooGreat) "__getattr__"=some none)
  (xc_TooGreat:PySem.W.findIn K (.ref c_TooGreat) "__class__"=some (some (.builtin "object.__class__")))
  (xn_TooGreat:PySem.W.specialIn K (.builtin "object.__class__") "__get__"=some (some (.builtin "getset_descriptor.__get__")))
  (xt_TooGreat:PySem.W.takesIn K (.builtin "object.__class__")=some true)
  (xm_TooGreat:PySem.W.mroIn K c_TooGreat (.type "object")=some true)
  (ke_TooGreat_NoState:PySem.W.kitOne K (.ref c_TooGreat) (.ref c_NoState)=some false)
  (ke_TooGreat_NoWish:PySem.W.kitOne K (.ref c_TooGreat) (.ref c_NoWish)=some false)
  (ke_TooGreat_NoText:PySem.W.kitOne K (.ref c_TooGreat) (.ref c_NoText)=some false)
  (kt_TooGreat:PySem.W.kitOne K (.ref c_TooGreat) (.type "ValueError")=some true)
  (cg_Bags:PySem.W.plainGet K c_Bags Str.empty=true)
  (ch_Bags:PySem.W.hasDictIn K c_Bags=true)
  (co_Bags:PySem.W.plainOver K c_Bags=true)
  (cs_Bags:PySem.W.findIn K (.ref c_Bags) "__setattr__"=some (some (.builtin "object.__setattr__")))
  (mm_Bags:PySem.W.makesIn K c_Bags=true)
  (mi_Bags:PySem.W.findIn K (.ref c_Bags) "__init__"=some (some (.ref f_z15)))
  (mf_Bags:PySem.W.isFn K (.ref f_z15)=true)
  (mp_Bags:PySem.W.keepIn K (.ref c_Bags)=true)
  (na_Bags_room:PySem.W.findIn K (.ref c_Bags) "room"=some none)
  (ea_Bags_moves:PySem.W.findIn K (.ref c_Bags) "moves"=some (some (.ref f_z9)))
  (ef_Bags_moves:PySem.W.isFn K (.ref f_z9)=true)
  (ea_Bags_price:PySem.W.findIn K (.ref c_Bags) "price"=some (some (.ref f_z10)))
  (ef_Bags_price:PySem.W.isFn K (.ref f_z10)=true)
  (ea_Bags_priced:PySem.W.findIn K (.ref c_Bags) "priced"=some (some (.ref f_z3)))
  (ef_Bags_priced:PySem.W.isFn K (.ref f_z3)=true)
  (cg_Line:PySem.W.plainGet K c_Line Str.empty=true)
  (ch_Line:PySem.W.hasDictIn K c_Line=true)
  (co_Line:PySem.W.plainOver K c_Line=true)
  (cs_Line:PySem.W.findIn K (.ref c_Line) "__setattr__"=some (some (.builtin "object.__setattr__")))
  (mm_Line:PySem.W.makesIn K c_Line=true)
  (mi_Line:PySem.W.findIn K (.ref c_Line) "__init__"=some (some (.ref f_z16)))
  (mf_Line:PySem.W.isFn K (.ref f_z16)=true)
  (mp_Line:PySem.W.keepIn K (.ref c_Line)=true)
  (na_Line_many:PySem.W.findIn K (.ref c_Line) "many"=some none)
  (ea_Line_moves:PySem.W.findIn K (.ref c_Line) "moves"=some (some (.ref f_z11)))
  (ef_Line_moves:PySem.W.isFn K (.ref f_z11)=true)
  (ea_Line_price:PySem.W.findIn K (.ref c_Line) "price"=some (some (.ref f_z12)))
  (ef_Line_price:PySem.W.isFn K (.ref f_z12)=true)
  (ea_Line_priced:PySem.W.findIn K (.ref c_Line) "priced"=some (some (.ref f_z3)))
  (ef_Line_priced:PySem.W.isFn K (.ref f_z3)=true)
  (cg_Shelf:PySem.W.plainGet K c_Shelf Str.empty=true)
  (ch_Shelf:PySem.W.hasDictIn K c_Shelf=true)
  (co_Shelf:PySem.W.plainOver K c_Shelf=true)
  (cs_Shelf:PySem.W.findIn K (.ref c_Shelf) "__setattr__"=some (some (.builtin "object.__setattr__")))
  (mm_Shelf:PySem.W.makesIn K c_Shelf=true)
  (mi_Shelf:PySem.W.findIn K (.ref c_Shelf) "__init__"=some (some (.ref f_z13)))
  (mf_Shelf:PySem.W.isFn K (.ref f_z13)=true)
  (mp_Shelf:PySem.W.keepIn K (.ref c_Shelf)=true)
  (na_Shelf_things:PySem.W.findIn K (.ref c_Shelf) "things"=some none)
  (ea_Shelf_moves:PySem.W.findIn K (.ref c_Shelf) "moves"=some (some (.ref f_z6)))
  (ef_Shelf_moves:PySem.W.isFn K (.ref f_z6)=true)
  (z_ValueError:PySem.W.nsIn K mainGlobals "ValueError"=some none)
  (z_abs:PySem.W.nsIn K mainGlobals "abs"=some none)
  (z_bool:PySem.W.nsIn K mainGlobals "bool"=some none)
  (z_int:PySem.W.nsIn K mainGlobals "int"=some none)
  (z_isinstance:PySem.W.nsIn K mainGlobals "isinstance"=some none)
  (z_len:PySem.W.nsIn K mainGlobals "len"=some none)
  (z_list:PySem.W.nsIn K mainGlobals "list"=some none)
  (z_min:PySem.W.nsIn K mainGlobals "min"=some none)
  (z_range:PySem.W.nsIn K mainGlobals "range"=some none)
  (z_reversed:PySem.W.nsIn K mainGlobals "reversed"=some none)
  (z_set:PySem.W.nsIn K mainGlobals "set"=some none)
  (z_sorted:PySem.W.nsIn K mainGlobals "sorted"=some none)
  (z_str:PySem.W.nsIn K mainGlobals "str"=some none)
  (z_sum:PySem.W.nsIn K mainGlobals "sum"=some none)
  (z_tuple:PySem.W.nsIn K mainGlobals "tuple"=some none)
  (z_zip:PySem.W.nsIn K mainGlobals "zip"=some none)
  (zk_MOST_STATES:PySem.W.nsIn K mainGlobals "MOST_STATES"=some (some (.int 60 t_MOST_STATES)))
  (zk_MOST_BAGS:PySem.W.nsIn K mainGlobals "MOST_BAGS"=some (some (.int 500 t_MOST_BAGS)))
  (nt:PySem.W.noTabs K=true) :
  ∃ (fd:FuncData) (cps:List (Addr × Addr)) (sp:Sp),PySem.W.noTabs K=true∧(∀ q∈cps,PySem.W.codeHdIn K q.1 q.2=true∧ts.contains q.2=true)∧(∀ (s:Shared) (v:Value),BindsTo s fd ⟨[v],[]⟩ [("_law_script",v)])∧(∀ (H:Hp) (a:Addr) (ns:List Int),ns.length≤63→(∀ z∈ns,ib z≤1048576)→(∀ q∈cps,H q.2=some (.tbl #[]))→SqL K H a (ns.map V.int)→sp [.ref a] H (fun v _=>v=.bl true) fun _ _ _=>False)∧∀ base:Heap,K.In base→base.Ns mainGlobals mg→FnOk l.prog w K mg base (CXU l.prog w) 14 fa fd ["_law_script"] sp:=by
 have e:=hfa.symm.trans (PySem.W.mg_of X G a_z29)
 cases e
 have F_z29:=j0p (st:=s_z29) l_z29 k_z29 p_z29
 have F_z26:=j0p (st:=s_z26) l_z26 k_z26 p_z26
 have F_z8:=j0p (st:=s_z8) l_z8 k_z8 p_z8
 have F_z23:=j0p (st:=s_z23) l_z23 k_z23 p_z23
 have F_z1:=jh3 (st:=s_z1) (ds:=[.none]) l_z1 k_z1 p_z1 q_LateError_init
 have F_z6:=j0p (st:=s_z6) l_z6 k_z6 p_z6
 have F_z11:=j0p (st:=s_z11) l_z11 k_z11 p_z11
 have F_z3:=j0p (st:=s_z3) l_z3 k_z3 p_z3
 have F_z12:=j0p (st:=s_z12) l_z12 k_z12 p_z12
 have F_z5:=j0p (st:=s_z5) l_z5 k_z5 p_z5
 have F_z10:=j0p (st:=s_z10) l_z10 k_z10 p_z10
 have F_z24:=j0p (st:=s_z24) l_z24 k_z24 p_z24
 have F_z25:=j0p (st:=s_z25) l_z25 k_z25 p_z25
 have F_z28:=j0p (st:=s_z28) l_z28 k_z28 p_z28
 have F_z9:=j0p (st:=s_z9) l_z9 k_z9 p_z9
 have F_z2:=j0p (st:=s_z2) l_z2 k_z2 p_z2
 have F_z0:=j0p (st:=s_z0) l_z0 k_z0 p_z0
 have F_z7:=j0p (st:=s_z7) l_z7 k_z7 p_z7
 have F_z27:=j0p (st:=s_z27) l_z27 k_z27 p_z27
 have F_z14:=j0p (st:=s_z14) l_z14 k_z14 p_z14
 have F_z17:=j0p (st:=s_z17) l_z17 k_z17 p_z17
 have F_z15:=j0p (st:=s_z15) l_z15 k_z15 p_z15
 have F_z21:=j0p (st:=s_z21) l_z21 k_z21 p_z21
 have F_z18:=j0p (st:=s_z18) l_z18 k_z18 p_z18
 have F_z16:=j0p (st:=s_z16) l_z16 k_z16 p_z16
 have F_z19:=j0p (st:=s_z19) l_z19 k_z19 p_z19
 have F_z22:=j0p (st:=s_z22) l_z22 k_z22 p_z22
 have F_z20:=j0p (st:=s_z20) l_z20 k_z20 p_z20
 have F_z4:=j0p (st:=s_z4) l_z4 k_z4 p_z4
 have F_z13:=j0p (st:=s_z13) l_z13 k_z13 p_z13
 have b_z29:=F_z29.binds (ps:=["_law_script"]) fun _ _ _ _ _ _ us hl=>match us,hl with | [_],_=>rfl
 have b_z26:=F_z26.binds (ps:=["world","start","wishes"]) fun _ _ _ _ _ _ us hl=>match us,hl with | [_,_,_],_=>rfl
 have b_z8:=F_z8.binds (ps:=["world","start","wishes"]) fun _ _ _ _ _ _ us hl=>match us,hl with | [_,_,_],_=>rfl
 have b_z23:=F_z23.binds (ps:=["world","row","wish"]) fun _ _ _ _ _ _ us hl=>match us,hl with | [_,_,_],_=>rfl
 have b1_LateError_init:=F_z1.binds (ps:=["self","row"]) (es:=[.none]) fun _ _ _ _ _ _ _ us hl=>match us,Nat.add_right_cancel (m:=1) (k:=1) (List.length_append.symm.trans hl) with | [_],_=>⟨_,rfl,rfl⟩
 have b_z1:=F_z1.binds (ps:=["self","row"]) (es:=[]) fun _ _ _ _ _ _ _ us hl=>match us,hl with | [_,_],_=>⟨_,rfl,rfl⟩
 have b_z6:=F_z6.binds (ps:=["self","before","wish"]) fun _ _ _ _ _ _ us hl=>match us,hl with | [_,_,_],_=>rfl
 have b_z11:=F_z11.binds (ps:=["self","before","wish"]) fun _ _ _ _ _ _ us hl=>match us,hl with | [_,_,_],_=>rfl
 have b_z3:=F_z3.binds (ps:=["self","before","wish","states"]) fun _ _ _ _ _ _ us hl=>match us,hl with | [_,_,_,_],_=>rfl
 have b_z12:=F_z12.binds (ps:=["self","before","wish","after"]) fun _ _ _ _ _ _ us hl=>match us,hl with | [_,_,_,_],_=>rfl
 have b_z5:=F_z5.binds (ps:=["before","after"]) fun _ _ _ _ _ _ us hl=>match us,hl with | [_,_],_=>rfl
 have b_z10:=F_z10.binds (ps:=["self","before","wish","after"]) fun _ _ _ _ _ _ us hl=>match us,hl with | [_,_,_,_],_=>rfl
 have b_z24:=F_z24.binds (ps:=["loads","at","size"]) fun _ _ _ _ _ _ us hl=>match us,hl with | [_,_,_],_=>rfl
 have b_z25:=F_z25.binds (ps:=["loads","size"]) fun _ _ _ _ _ _ us hl=>match us,hl with | [_,_],_=>rfl
 have b_z28:=F_z28.binds (ps:=["places","at","wish"]) fun _ _ _ _ _ _ us hl=>match us,hl with | [_,_,_],_=>rfl
 have b_z9:=F_z9.binds (ps:=["self","before","wish"]) fun _ _ _ _ _ _ us hl=>match us,hl with | [_,_,_],_=>rfl
 have b_z2:=F_z2.binds (ps:=["row"]) fun _ _ _ _ _ _ us hl=>match us,hl with | [_],_=>rfl
 have b_z0:=F_z0.binds (ps:=["_law_world","_law_start","_law_wishes"]) fun _ _ _ _ _ _ us hl=>match us,hl with | [_,_,_],_=>rfl
 have b_z7:=F_z7.binds (ps:=["_law_world","_law_start","_law_wishes","_law_by_best"]) fun _ _ _ _ _ _ us hl=>match us,hl with | [_,_,_,_],_=>rfl
 have b_z27:=F_z27.binds (ps:=["world","start","wishes"]) fun _ _ _ _ _ _ us hl=>match us,hl with | [_,_,_],_=>rfl
 have b_z14:=F_z14.binds (ps:=["_law_start","_law_wishes","_law_room"]) fun _ _ _ _ _ _ us hl=>match us,hl with | [_,_,_],_=>rfl
 have b_z17:=F_z17.binds (ps:=["_law_state","_law_wish","_law_room"]) fun _ _ _ _ _ _ us hl=>match us,hl with | [_,_,_],_=>rfl
 have b_z15:=F_z15.binds (ps:=["self","room"]) fun _ _ _ _ _ _ us hl=>match us,hl with | [_,_],_=>rfl
 have b_z21:=F_z21.binds (ps:=["_law_script","_law_k"]) fun _ _ _ _ _ _ us hl=>match us,hl with | [_,_],_=>rfl
 have b_z18:=F_z18.binds (ps:=["_law_cell_here","_law_k"]) fun _ _ _ _ _ _ us hl=>match us,hl with | [_,_],_=>rfl
 have b_z16:=F_z16.binds (ps:=["self","many"]) fun _ _ _ _ _ _ us hl=>match us,hl with | [_,_],_=>rfl
 have b_z19:=F_z19.binds (ps:=["_law_script","_law_head"]) fun _ _ _ _ _ _ us hl=>match us,hl with | [_,_],_=>rfl
 have b_z22:=F_z22.binds (ps:=["_law_found","_law_due"]) fun _ _ _ _ _ _ us hl=>match us,hl with | [_,_],_=>rfl
 have b_z20:=F_z20.binds (ps:=["_law_found"]) fun _ _ _ _ _ _ us hl=>match us,hl with | [_],_=>rfl
 have b_z4:=F_z4.binds (ps:=["_law_found","_law_due"]) fun _ _ _ _ _ _ us hl=>match us,hl with | [_,_],_=>rfl
 have b_z13:=F_z13.binds (ps:=["self","things"]) fun _ _ _ _ _ _ us hl=>match us,hl with | [_,_],_=>rfl
 have T:Txt K mg ⟨fa,_,f_z26,_,f_z8,_,f_z23,_,f_z1,_,_,f_z6,_,f_z11,_,f_z3,_,f_z12,_,f_z5,_,f_z10,_,f_z24,_,f_z25,_,f_z28,_,f_z9,_,f_z2,_,f_z0,_,f_z7,_,f_z27,_,ck_z27,tb_z27,f_z14,_,f_z17,_,f_z15,_,f_z21,_,f_z18,_,f_z16,_,f_z19,_,f_z22,_,f_z20,_,f_z4,_,f_z13,_,c_LateError,c_NoState,c_NoWish,c_NoText,c_TooGreat,c_World,c_Bags,c_Line,c_Shelf,_,_⟩:=⟨F_z29,b_z29,PySem.W.mg_of X G a_z29,F_z26,b_z26,PySem.W.mg_of X G a_z26,F_z8,b_z8,PySem.W.mg_of X G a_z8,F_z23,b_z23,PySem.W.mg_of X G a_z23,F_z1,b_z1,b1_LateError_init,(.cons rfl .nil),F_z6,b_z6,F_z11,b_z11,F_z3,b_z3,F_z12,b_z12,F_z5,b_z5,PySem.W.mg_of X G a_z5,F_z10,b_z10,F_z24,b_z24,PySem.W.mg_of X G a_z24,F_z25,b_z25,PySem.W.mg_of X G a_z25,F_z28,b_z28,PySem.W.mg_of X G a_z28,F_z9,b_z9,F_z2,b_z2,PySem.W.mg_of X G a_z2,F_z0,b_z0,PySem.W.mg_of X G a_z0,F_z7,b_z7,PySem.W.mg_of X G a_z7,F_z27,b_z27,PySem.W.mg_of X G a_z27,rfl,hd_best,F_z14,b_z14,PySem.W.mg_of X G a_z14,F_z17,b_z17,PySem.W.mg_of X G a_z17,F_z15,b_z15,F_z21,b_z21,PySem.W.mg_of X G a_z21,F_z18,b_z18,PySem.W.mg_of X G a_z18,F_z16,b_z16,F_z19,b_z19,PySem.W.mg_of X G a_z19,F_z22,b_z22,PySem.W.mg_of X G a_z22,F_z20,b_z20,PySem.W.mg_of X G a_z20,F_z4,b_z4,PySem.W.mg_of X G a_z4,F_z13,b_z13,⟨⟨_,_,_,_,_,_,_,_,_,_,_,_,_,_,xl_LateError⟩,xi_LateError,xf_LateError,xk_LateError,xs_LateError,xr_LateError,xg_LateError,xh_LateError,xc_LateError,xn_LateError,xt_LateError,xm_LateError⟩,PySem.W.mg_of X G aC_LateError,PySem.W.mg_of X G aC_NoState,PySem.W.mg_of X G aC_NoWish,PySem.W.mg_of X G aC_NoText,⟨⟨_,_,_,_,_,_,_,_,_,_,_,_,_,_,xl_TooGreat⟩,xi_TooGreat,xf_TooGreat,xk_TooGreat,xs_TooGreat,xr_TooGreat,xg_TooGreat,xh_TooGreat,xc_TooGreat,xn_TooGreat,xt_TooGreat,xm_TooGreat⟩,ke_TooGreat_NoState,ke_TooGreat_NoWish,ke_TooGreat_NoText,kt_TooGreat,PySem.W.mg_of X G aC_TooGreat,PySem.W.mg_of X G aC_Bags,⟨cg_Bags,ch_Bags,co_Bags,cs_Bags⟩,⟨mm_Bags,mi_Bags,mf_Bags,mp_Bags⟩,na_Bags_room,⟨ea_Bags_moves,ef_Bags_moves,p_z9⟩,⟨ea_Bags_price,ef_Bags_price,p_z10⟩,⟨ea_Bags_priced,ef_Bags_priced,p_z3⟩,PySem.W.mg_of X G aC_Line,⟨cg_Line,ch_Line,co_Line,cs_Line⟩,⟨mm_Line,mi_Line,mf_Line,mp_Line⟩,na_Line_many,⟨ea_Line_moves,ef_Line_moves,p_z11⟩,⟨ea_Line_price,ef_Line_price,p_z12⟩,⟨ea_Line_priced,ef_Line_priced,p_z3⟩,PySem.W.mg_of X G aC_Shelf,⟨cg_Shelf,ch_Shelf,co_Shelf,cs_Shelf⟩,⟨mm_Shelf,mi_Shelf,mf_Shelf,mp_Shelf⟩,na_Shelf_things,⟨ea_Shelf_moves,ef_Shelf_moves,p_z6⟩,PySem.W.mg_none_of X G z_ValueError,PySem.W.mg_none_of X G z_abs,PySem.W.mg_none_of X G z_bool,PySem.W.mg_none_of X G z_int,PySem.W.mg_none_of X G z_isinstance,PySem.W.mg_none_of X G z_len,PySem.W.mg_none_of X G z_list,PySem.W.mg_none_of X G z_min,PySem.W.mg_none_of X G z_range,PySem.W.mg_none_of X G z_reversed,PySem.W.mg_none_of X G z_set,PySem.W.mg_none_of X G z_sorted,PySem.W.mg_none_of X G z_str,PySem.W.mg_none_of X G z_sum,PySem.W.mg_none_of X G z_tuple,PySem.W.mg_none_of X G z_zip,PySem.W.mg_of X G zk_MOST_STATES,PySem.W.mg_of X G zk_MOST_BAGS⟩
 exact⟨_,[(ck_z27,tb_z27)],_,nt,fun q hq=>by rw[List.mem_singleton.mp hq];exact⟨hd_best,tc_best⟩,fun s v=>.of_eq rfl,fun H p ns h1 h2 h3 h4=>⟨p,ns,rfl,h4,h1,h2,h3 _ (.head _),fun _=>rfl⟩,fun base _ _=>ok_law T⟩
theorem walk {l:PySem.W.OpenLaw}{q:Program}{loose:List Str}{XP:(Str→Option Value)→Heap→Prop}{YP:World→Heap→Prop}{d:DefRec}{K:Params→PySem.W.Frag}{ts:List Addr} (hn:l.most=some 63) (hdf:d.params.defaults=[])
  (hY:∀ (w:World) (h:Heap),YP w h→(K w.params).In h) (hY2:∀ (w:World) (h:Heap),YP w h→∀ P∈ts,h.get? P=some (PySem.W.tabObj #[]))
  (F:∀ (w:World) (mg:Str→Option Value) (fa:Addr) (h:Heap),(K w.params).In h→h.Ns mainGlobals mg→mg d.name=some (.ref fa) →
   ∃ (fd:FuncData) (cps:List (Addr × Addr)) (sp:Sp),PySem.W.noTabs (K w.params)=true∧(∀ q∈cps,PySem.W.codeHdIn (K w.params) q.1 q.2=true∧ts.contains q.2=true)∧(∀ (s:Shared) (u:Value),BindsTo s fd ⟨[u],[]⟩ [("_law_script",u)]) ∧
    (∀ (H:Hp) (a:Addr) (ns:List Int),ns.length≤63→(∀ z∈ns,ib z≤1048576)→(∀ q∈cps,H q.2=some (.tbl #[]))→SqL (K w.params) H a (ns.map V.int)→sp [.ref a] H (fun v _=>v=.bl true) fun _ _ _=>False) ∧
    ∀ base:Heap,(K w.params).In base→base.Ns mainGlobals mg→FnOk l.prog w (K w.params) mg base (CXU l.prog w) 14 fa fd ["_law_script"] sp) :
  PySem.W.WalkO q loose XP YP l.row.toRowW d [] (fun f vs=>PySem.call f vs) :=
 L2.walk_ofT (n:=63) (k:=14) (x:="_law_script") (CX:=fun w=>CXU l.prog w) hn (by decide) hdf ⟨rfl,by decide,by decide,rfl⟩ hY hY2 F noneU
end Q
namespace PySem.W.Fast
def tw79537336304609244:Unit:=()
def tw8832559120271512118:Unit:=()
def tw10195978833788986621:Unit:=()
def tw8429938980989887003:Unit:=()
def tw9032030212196351074:Unit:=()
def tw4453003224928011079:Unit:=()
def tw8118052568831624878:Unit:=()
def tw1190647338327571085:Unit:=()
def tw5843949798158628219:Unit:=()
def tw2647899994849577837:Unit:=()
def tw4756149575265432375:Unit:=()
def tw15645490263955648043:Unit:=()
end PySem.W.Fast
open PySem PySem.W PyProof.Rows
set_option maxRecDepth 100000 in
set_option maxHeartbeats 0 in
theorem PySem.Challenge.cw_lateknow_k65_too_great_holds : PySem.Challenge.rw_lateknow_k65_too_great.Holds := by
 w_on;o_law;k_head;(case hw=>w_witness2)
 k_fill
 refine Q.walk (l:=PySem.Challenge.rw_lateknow_k65_too_great) rfl rfl (fun w h Y=>PySem.W.km_in_of Y) (fun w h Y=>PySem.W.km_tabs_of Y) ?F
 case F =>
  intro w mg fa h KX G hmg
  refine' Q.all_mk KX G hmg ?aC_LateError ?aC_NoState ?aC_NoWish ?aC_NoText ?aC_TooGreat ?aC_World ?aC_Bags ?aC_Line ?aC_Shelf ?a_z29 ?l_z29 ?k_z29 ?p_z29 ?a_z26 ?l_z26 ?k_z26 ?p_z26 ?a_z8 ?l_z8 ?k_z8 ?p_z8 ?a_z23 ?l_z23 ?k_z23 ?p_z23 ?a_z1 ?l_z1 ?q_LateError_init ?k_z1 ?p_z1 ?a_z6 ?l_z6 ?k_z6 ?p_z6 ?a_z11 ?l_z11 ?k_z11 ?p_z11 ?a_z3 ?l_z3 ?k_z3 ?p_z3 ?a_z12 ?l_z12 ?k_z12 ?p_z12 ?a_z5 ?l_z5 ?k_z5 ?p_z5 ?a_z10 ?l_z10 ?k_z10 ?p_z10 ?a_z24 ?l_z24 ?k_z24 ?p_z24 ?a_z25 ?l_z25 ?k_z25 ?p_z25 ?a_z28 ?l_z28 ?k_z28 ?p_z28 ?a_z9 ?l_z9 ?k_z9 ?p_z9 ?a_z2 ?l_z2 ?k_z2 ?p_z2 ?a_z0 ?l_z0 ?k_z0 ?p_z0 ?a_z7 ?l_z7 ?k_z7 ?p_z7 ?a_z27 ?l_z27 ?lc_best ?pt_best ?hd_best ?tc_best ?k_z27 ?p_z27 ?a_z14 ?l_z14 ?k_z14 ?p_z14 ?a_z17 ?l_z17 ?k_z17 ?p_z17 ?a_z15 ?l_z15 ?k_z15 ?p_z15 ?a_z21 ?l_z21 ?k_z21 ?p_z21 ?a_z18 ?l_z18 ?k_z18 ?p_z18 ?a_z16 ?l_z16 ?k_z16 ?p_z16 ?a_z19 ?l_z19 ?k_z19 ?p_z19 ?a_z22 ?l_z22 ?k_z22 ?p_z22 ?a_z20 ?l_z20 ?k_z20 ?p_z20 ?a_z4 ?l_z4 ?k_z4 ?p_z4 ?a_z13 ?l_z13 ?k_z13 ?p_z13 ?xl_LateError ?xi_LateError ?xf_LateError ?xk_LateError ?xs_LateError ?xr_LateError ?xg_LateError ?xh_LateError ?xc_LateError ?xn_LateError ?xt_LateError ?xm_LateError ?xl_TooGreat ?xi_TooGreat ?xf_TooGreat ?xk_TooGreat ?xs_TooGreat ?xr_TooGreat ?xg_TooGreat ?xh_TooGreat ?xc_TooGreat ?xn_TooGreat ?xt_TooGreat ?xm_TooGreat ?ke_TooGreat_NoState ?ke_TooGreat_NoWish ?ke_TooGreat_NoText ?kt_TooGreat ?cg_Bags ?ch_Bags ?co_Bags ?cs_Bags ?mm_Bags ?mi_Bags ?mf_Bags ?mp_Bags ?na_Bags_room ?ea_Bags_moves ?ef_Bags_moves ?ea_Bags_price ?ef_Bags_price ?ea_Bags_priced ?ef_Bags_priced ?cg_Line ?ch_Line ?co_Line ?cs_Line ?mm_Line ?mi_Line ?mf_Line ?mp_Line ?na_Line_many ?ea_Line_moves ?ef_Line_moves ?ea_Line_price ?ef_Line_price ?ea_Line_priced ?ef_Line_priced ?cg_Shelf ?ch_Shelf ?co_Shelf ?cs_Shelf ?mm_Shelf ?mi_Shelf ?mf_Shelf ?mp_Shelf ?na_Shelf_things ?ea_Shelf_moves ?ef_Shelf_moves ?z_ValueError ?z_abs ?z_bool ?z_int ?z_isinstance ?z_len ?z_list ?z_min ?z_range ?z_reversed ?z_set ?z_sorted ?z_str ?z_sum ?z_tuple ?z_zip ?zk_MOST_STATES ?zk_MOST_BAGS ?nt
  (case aC_LateError=>k_is)
  (case aC_NoState=>k_is)
  (case aC_NoWish=>k_is)
  (case aC_NoText=>k_is)
  (case aC_TooGreat=>k_is)
  (case aC_World=>k_is)
  (case aC_Bags=>k_is)
  (case aC_Line=>k_is)
  (case aC_Shelf=>k_is)
  (case a_z29=>k_is)
  (case l_z29=>k_is)
  (case k_z29=>k_is)
  (case p_z29=>k_is)
  (case a_z26=>k_is)
  (case l_z26=>k_is)
  (case k_z26=>k_is)
  (case p_z26=>k_is)
  (case a_z8=>k_is)
  (case l_z8=>k_is)
  (case k_z8=>k_is)
  (case p_z8=>k_is)
  (case a_z23=>k_is)
  (case l_z23=>k_is)
  (case k_z23=>k_is)
  (case p_z23=>k_is)
  (case a_z1=>k_is)
  (case l_z1=>k_is)
  (case q_LateError_init=>k_is)
  (case k_z1=>k_is)
  (case p_z1=>k_is)
  (case a_z6=>k_is)
  (case l_z6=>k_is)
  (case k_z6=>k_is)
  (case p_z6=>k_is)
  (case a_z11=>k_is)
  (case l_z11=>k_is)
  (case k_z11=>k_is)
  (case p_z11=>k_is)
  (case a_z3=>k_is)
  (case l_z3=>k_is)
  (case k_z3=>k_is)
  (case p_z3=>k_is)
  (case a_z12=>k_is)
  (case l_z12=>k_is)
  (case k_z12=>k_is)
  (case p_z12=>k_is)
  (case a_z5=>k_is)
  (case l_z5=>k_is)
  (case k_z5=>k_is)
  (case p_z5=>k_is)
  (case a_z10=>k_is)
  (case l_z10=>k_is)
  (case k_z10=>k_is)
  (case p_z10=>k_is)
  (case a_z24=>k_is)
  (case l_z24=>k_is)
  (case k_z24=>k_is)
  (case p_z24=>k_is)
  (case a_z25=>k_is)
  (case l_z25=>k_is)
  (case k_z25=>k_is)
  (case p_z25=>k_is)
  (case a_z28=>k_is)
  (case l_z28=>k_is)
  (case k_z28=>k_is)
  (case p_z28=>k_is)
  (case a_z9=>k_is)
  (case l_z9=>k_is)
  (case k_z9=>k_is)
  (case p_z9=>k_is)
  (case a_z2=>k_is)
  (case l_z2=>k_is)
  (case k_z2=>k_is)
  (case p_z2=>k_is)
  (case a_z0=>k_is)
  (case l_z0=>k_is)
  (case k_z0=>k_is)
  (case p_z0=>k_is)
  (case a_z7=>k_is)
  (case l_z7=>k_is)
  (case k_z7=>k_is)
  (case p_z7=>k_is)
  (case a_z27=>k_is)
  (case l_z27=>k_is)
  (case lc_best=>k_is)
  (case pt_best=>exact rfl)
  (case hd_best=>kernel_rfl)
  (case tc_best=>exact rfl)
  (case k_z27=>k_is)
  (case p_z27=>k_is)
  (case a_z14=>k_is)
  (case l_z14=>k_is)
  (case k_z14=>k_is)
  (case p_z14=>k_is)
  (case a_z17=>k_is)
  (case l_z17=>k_is)
  (case k_z17=>k_is)
  (case p_z17=>k_is)
  (case a_z15=>k_is)
  (case l_z15=>k_is)
  (case k_z15=>k_is)
  (case p_z15=>k_is)
  (case a_z21=>k_is)
  (case l_z21=>k_is)
  (case k_z21=>k_is)
  (case p_z21=>k_is)
  (case a_z18=>k_is)
  (case l_z18=>k_is)
  (case k_z18=>k_is)
  (case p_z18=>k_is)
  (case a_z16=>k_is)
  (case l_z16=>k_is)
  (case k_z16=>k_is)
  (case p_z16=>k_is)
  (case a_z19=>k_is)
  (case l_z19=>k_is)
  (case k_z19=>k_is)
  (case p_z19=>k_is)
  (case a_z22=>k_is)
  (case l_z22=>k_is)
  (case k_z22=>k_is)
  (case p_z22=>k_is)
  (case a_z20=>k_is)
  (case l_z20=>k_is)
  (case k_z20=>k_is)
  (case p_z20=>k_is)
  (case a_z4=>k_is)
  (case l_z4=>k_is)
  (case k_z4=>k_is)
  (case p_z4=>k_is)
  (case a_z13=>k_is)
  (case l_z13=>k_is)
  (case k_z13=>k_is)
  (case p_z13=>k_is)
  (case xl_LateError=>k_is)
  (case xi_LateError=>k_is)
  (case xf_LateError=>k_is)
  (case xk_LateError=>k_is)
  (case xs_LateError=>k_is)
  (case xr_LateError=>k_is)
  (case xg_LateError=>k_is)
  (case xh_LateError=>k_is)
  (case xc_LateError=>k_is)
  (case xn_LateError=>k_is)
  (case xt_LateError=>k_is)
  (case xm_LateError=>k_is)
  (case xl_TooGreat=>k_is)
  (case xi_TooGreat=>k_is)
  (case xf_TooGreat=>k_is)
  (case xk_TooGreat=>k_is)
  (case xs_TooGreat=>k_is)
  (case xr_TooGreat=>k_is)
  (case xg_TooGreat=>k_is)
  (case xh_TooGreat=>k_is)
  (case xc_TooGreat=>k_is)
  (case xn_TooGreat=>k_is)
  (case xt_TooGreat=>k_is)
  (case xm_TooGreat=>k_is)
  (case ke_TooGreat_NoState=>kit_is)
  (case ke_TooGreat_NoWish=>kit_is)
  (case ke_TooGreat_NoText=>kit_is)
  (case kt_TooGreat=>kit_is)
  (case cg_Bags=>k_is)
  (case ch_Bags=>k_is)
  (case co_Bags=>k_is)
  (case cs_Bags=>k_is)
  (case mm_Bags=>k_is)
  (case mi_Bags=>k_is)
  (case mf_Bags=>k_is)
  (case mp_Bags=>k_is)
  (case na_Bags_room=>k_is)
  (case ea_Bags_moves=>k_is)
  (case ef_Bags_moves=>k_is)
  (case ea_Bags_price=>k_is)
  (case ef_Bags_price=>k_is)
  (case ea_Bags_priced=>k_is)
  (case ef_Bags_priced=>k_is)
  (case cg_Line=>k_is)
  (case ch_Line=>k_is)
  (case co_Line=>k_is)
  (case cs_Line=>k_is)
  (case mm_Line=>k_is)
  (case mi_Line=>k_is)
  (case mf_Line=>k_is)
  (case mp_Line=>k_is)
  (case na_Line_many=>k_is)
  (case ea_Line_moves=>k_is)
  (case ef_Line_moves=>k_is)
  (case ea_Line_price=>k_is)
  (case ef_Line_price=>k_is)
  (case ea_Line_priced=>k_is)
  (case ef_Line_priced=>k_is)
  (case cg_Shelf=>k_is)
  (case ch_Shelf=>k_is)
  (case co_Shelf=>k_is)
  (case cs_Shelf=>k_is)
  (case mm_Shelf=>k_is)
  (case mi_Shelf=>k_is)
  (case mf_Shelf=>k_is)
  (case mp_Shelf=>k_is)
  (case na_Shelf_things=>k_is)
  (case ea_Shelf_moves=>k_is)
  (case ef_Shelf_moves=>k_is)
  (case z_ValueError=>k_is)
  (case z_abs=>k_is)
  (case z_bool=>k_is)
  (case z_int=>k_is)
  (case z_isinstance=>k_is)
  (case z_len=>k_is)
  (case z_list=>k_is)
  (case z_min=>k_is)
  (case z_range=>k_is)
  (case z_reversed=>k_is)
  (case z_set=>k_is)
  (case z_sorted=>k_is)
  (case z_str=>k_is)
  (case z_sum=>k_is)
  (case z_tuple=>k_is)
  (case z_zip=>k_is)
  (case zk_MOST_STATES=>k_is)
  (case zk_MOST_BAGS=>k_is)
  (case nt=>kernel_rfl)
