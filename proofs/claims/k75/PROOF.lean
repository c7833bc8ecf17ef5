import PyProof.Rows.All
import Wide.All
import OpenK.AllK
import Wide.FinOn
import Lean
import PyProof.EqAt
import PyProof.EqKinds
import PyProof.TupleCall
import PyProof.ExcClass3
import PyProof.InstStoreFacts
import PyProof.RulesAs
import PyProof.NsDelKeeps
import PyProof.ExcArgsOwn
import PyProof.ExcAttrAll.ValueError
import PyProof.ExcBaseAll.ValueError
import PySem.Challenge.RW_lateknow_k75_enemy_of_keeper
set_option Elab.async false
set_option linter.all false
set_option maxRecDepth 100000
set_option maxHeartbeats 4000000
set_option Elab.async false
set_option linter.all false
set_option maxRecDepth 100000
namespace L2
open PySem PySem.Spec PyProof.Rows
abbrev Key:=Sum Int Str
def jhg:Key→Value→Bool
 | .inl k,v=>Value.isInt k v
 | .inr x,v=>Value.isStrOf x v
def keyH (w:World):Key→Int
 | .inl k=>hashInt k
 | .inr x=>hashStr w x
theorem j0k:∀ {k:Key}{v:Value},jhg k v=true→(∃ i t,k=Sum.inl i∧v=Value.int i t)∨(∃ x t,k=Sum.inr x∧v=Value.str x t)
 | .inl i,v,h=>by
  obtain⟨t,e⟩:=Value.isInt_shape (k:=i) (v:=v) h
  exact .inl ⟨i,t,rfl,e⟩
 | .inr x,v,h=>by
  obtain⟨t,e⟩:=Value.isStrOf_shape (x:=x) (v:=v) h
  exact .inr ⟨x,t,rfl,e⟩
theorem jcb (i:Int) (t:Tok):jhg (.inl i) (.int i t)=true:=by simp[jhg,Value.isInt]
theorem jcc (x:Str) (t:Tok):jhg (.inr x) (.str x t)=true:=by simp[jhg,Value.isStrOf]
theorem key_ll (a b:Int):decide ((Sum.inl a:Key)=Sum.inl b)=(a == b):=by
 by_cases e:a=b
 ·subst e;simp
 ·have h:¬ (Sum.inl a:Key)=Sum.inl b:=fun q=>e (Sum.inl.inj q)
  rw[decide_eq_false h]
  exact (beq_eq_false_iff_ne.mpr e).symm
theorem key_rr (a b:Str):decide ((Sum.inr a:Key)=Sum.inr b)=decide (a=b):=by
 by_cases e:a=b
 ·subst e;simp
 ·have h:¬ (Sum.inr a:Key)=Sum.inr b:=fun q=>e (Sum.inr.inj q)
  rw[decide_eq_false h,decide_eq_false e]
theorem key_lr (a:Int) (b:Str):decide ((Sum.inl a:Key)=Sum.inr b)=false:=decide_eq_false (fun q=>nomatch q)
theorem key_rl (a:Str) (b:Int):decide ((Sum.inr a:Key)=Sum.inl b)=false:=decide_eq_false (fun q=>nomatch q)
def j11 (prog:Program) (w:World):PySem.KeyKind prog w Key where
 is:=jhg
 hash:=keyH w
 inj:=fun v a b ha hb=>by
  rcases j0k ha with⟨i,t,rfl,rfl⟩ | ⟨x,t,rfl,rfl⟩
  ·rcases j0k hb with⟨j,u,rfl,e⟩ | ⟨y,u,rfl,e⟩
   ·injection e with e1 _;rw[e1]
   ·exact nomatch e
  ·rcases j0k hb with⟨j,u,rfl,e⟩ | ⟨y,u,rfl,e⟩
   ·exact nomatch e
   ·injection e with e1 _;rw[e1]
 byValue:=fun k v h=>by
  rcases j0k h with⟨i,t,rfl,rfl⟩ | ⟨x,t,rfl,rfl⟩ <;> rfl
 pyHash:=fun hv h=>by
  rcases j0k hv with⟨i,t,rfl,rfl⟩ | ⟨x,t,rfl,rfl⟩
  ·exact wpAny_pyHash_int h
  ·exact wpAny_pyHash_str h
 eqBool:=fun hu hv h=>by
  rcases j0k hu with⟨i,t,rfl,rfl⟩ | ⟨x,t,rfl,rfl⟩
  ·rcases j0k hv with⟨j,u,rfl,rfl⟩ | ⟨y,u,rfl,rfl⟩
   ·rw[key_ll] at h;exact wpAny_eqBool_int h
   ·rw[key_lr] at h;exact SeqAt.EqAt.int_str i t y u _ _ _ _ h
  ·rcases j0k hv with⟨j,u,rfl,rfl⟩ | ⟨y,u,rfl,rfl⟩
   ·rw[key_rl] at h;exact SeqAt.EqAt.str_int x t j u _ _ _ _ h
   ·rw[key_rr] at h;exact wpAny_eqBool_str h
 «strs»:=fun k x t v h=>by
  rcases j0k h with⟨i,u,rfl,e⟩ | ⟨y,u,rfl,e⟩
  ·exact nomatch e
  ·injection e with e1 _
   subst e1
   cases v <;> rfl
theorem j8p (prog:Program) (w:World) (i:Int) (t:Tok):(j11 prog w).is (.inl i) (.int i t)=true:=jcb i t
theorem j8q (prog:Program) (w:World) (x:Str) (t:Tok):(j11 prog w).is (.inr x) (.str x t)=true:=jcc x t
inductive V where
 | non | bl (b:Bool) | int (i:Int) | str (x:Str) | byt (b:Array UInt8) | flt (b:UInt64) | ref (a:Addr) | ty (n:String)
 deriving DecidableEq
def RelV:V→Value→Prop
 | .non,u=>u=Value.none
 | .bl b,u=>u=Value.bool b
 | .int i,u=>∃ t,u=Value.int i t
 | .str x,u=>∃ t,u=Value.str x t
 | .byt b,u=>∃ t,u=Value.bytes b t
 | .flt b,u=>∃ t,u=Value.float b t
 | .ref a,u=>u=Value.ref a
 | .ty n,u=>u=Value.type n
abbrev Vals:List V→List Value→Prop:=Paired RelV
theorem Vals.length {xs:List V}{us:List Value} (r:Vals xs us):xs.length=us.length:=Paired.length r
theorem Vals.get:∀ {xs:List V}{us:List Value}{i:Nat}{x:V},Vals xs us→xs[i]?=some x→∃ u,us[i]?=some u∧RelV x u
 | _,_,_,_,.nil,e=>by simp at e
 | _,_,0,_,.cons r _,e=>by simp at e;subst e;exact⟨_,rfl,r⟩
 | _,_,i+1,x,.cons _ t,e=>by
  obtain⟨u,h1,h2⟩:=Vals.get (i:=i) (x:=x) t (by simpa using e)
  exact⟨u,by simpa using h1,h2⟩
theorem Vals.set {x:V}{u:Value} (r:RelV x u):∀ {xs:List V}{us:List Value} (i:Nat),Vals xs us→Vals (xs.set i x) (us.set i u)
 | _,_,_,.nil=>.nil
 | _,_,0,.cons _ t=>.cons r t
 | _,_,i+1,.cons q t=>.cons q (Vals.set r i t)
theorem Vals.append:∀ {xs ys:List V}{us ws:List Value},Vals xs us→Vals ys ws→Vals (xs++ys) (us++ws)
 | _,_,_,_,.nil,s=>s
 | _,_,_,_,.cons r t,s=>.cons r (Vals.append t s)
theorem Vals.take:∀ {xs:List V}{us:List Value} (n:Nat),Vals xs us→Vals (xs.take n) (us.take n)
 | _,_,0,_=>.nil
 | _,_,_+1,.nil=>.nil
 | _,_,n+1,.cons r t=>.cons r (Vals.take n t)
theorem Vals.drop:∀ {xs:List V}{us:List Value} (n:Nat),Vals xs us→Vals (xs.drop n) (us.drop n)
 | _,_,0,r=>r
 | _,_,_+1,.nil=>.nil
 | _,_,n+1,.cons _ t=>Vals.drop n t
def RelO:Option V→Option Value→Prop
 | some v,some u=>RelV v u
 | none,none=>True
 | _,_=>False
def KV {κ:Type}:List (κ × V)→List (κ × Value)→Prop:=Paired fun (p:κ × V) (q:κ × Value)=>p.1=q.1∧RelV p.2 q.2
def kV:Key→V
 | .inl i=>.int i
 | .inr x=>.str x
def TupN (h:Heap) (a:Addr) (xs:Array Value):Prop:=IsTup h a xs∧∃ o,h.get? a=some o∧o.dict=none
theorem TupN.new (h:Heap) (xs:Array Value):TupN (h.push { cls:=.type "tuple",data:=.seq xs }) h.objs.size xs:=⟨IsTup.new _ _,_,Heap.get?_push_size _ rfl,rfl⟩
inductive HO where
  | lst (xs:List V)
  | tup (xs:List V)
  | dK (kvs:List (Key × V)) | dT (kvs:List (List Key × V))
  | set (S:Int→Bool) (n:Nat)
  | ins (C dx:Addr) (fs:List (Str × V))
  | own (x:Addr)
  | xd (fs:List (Str × V))
  | met (f x:Addr)
  | rng (lo hi:Int)
  | frz (o:Obj) (u:HO)
  | tbl (ps:Array Value)
  | ext (φ:Heap→Prop)
abbrev Hp:=Addr→Option HO
def upd (H:Hp) (a:Addr) (o:HO):Hp:=fun b=>if b=a then some o else H b
theorem j07 {H:Hp}{a:Addr}{o:HO}:upd H a o a=some o:=by unfold upd;rw[if_pos rfl]
theorem j08 {H:Hp}{a b:Addr}{o:HO} (h:b≠a):upd H a o b=H b:=by unfold upd;rw[if_neg h]
theorem jdw {H:Hp}{a:Addr}{o u:HO}:upd (upd H a o) a u=upd H a u:=by
 funext b;unfold upd;split <;> rfl
theorem j58 {H:Hp}{a b:Addr}{o u:HO} (h:H a=some o) (h':H b=some u) (d:o≠u):a≠b:=by
 intro e;subst e;rw[h] at h';exact d (Option.some.inj h')
theorem j05 {H:Hp}{a b:Addr}{o:HO} (h:H a=some o) (h':H b=none):a≠b:=by
 intro e;subst e;rw[h] at h';cases h'
section
variable (P:Program) (w:World)
def ObjOk (H:Hp) (h:Heap) (a:Addr):HO→Prop
 | .lst xs=>xs.length≤sizeLine∧∃ (its:List Value) (n:Nat),Vals xs its∧h.get? a=some { cls:=.type "list",data:=.seq its.toArray n }
 | .tup xs=>xs.length≤sizeLine∧∃ its:List Value,Vals xs its∧TupN h a its.toArray
 | .dK kvs=>kvs.length≤sizeLine∧(a == sysModules)=false∧∃ vs,KV kvs vs∧h.DictOf (j11 P w) a vs
 | .dT kvs=>kvs.length≤sizeLine∧(a == sysModules)=false∧∃ xs:List (List Key × Addr × Value),
   Paired (fun (p:List Key × V) (q:List Key × Addr × Value)=>p.1=q.1∧H q.2.1=some (.tup (p.1.map kV))∧RelV p.2 q.2.2) kvs xs ∧
   ∃ o es ep,h.get? a=some o∧o.ExactDict∧o.data=.dict es ep∧es.toList=xs.map (entryOfKey (tupleKind (j11 P w)))∧(xs.map (·.1)).Nodup
 | .set S n=>h.SetOf (intKind P w) a S n
 | .ins C dx fs=>H dx=some (.own a)∧fs.length≤1000∧dx≠a∧h.get? a=some (PySem.W.instObj C dx) ∧
   ∃ mA,h.Ns1 dx mA∧(∀ f,RelO (fs.lookup f) (mA f))∧PySem.Within mA (fs.map (·.1))
 | .own _=>∃ o,h.get? a=some o
 | .xd fs=>∃ mA,h.Ns1 a mA∧∀ f,RelO (fs.lookup f) (mA f)
 | .rng lo hi=>∃ t u v,h.get? a=some { cls:=.type "range",data:=.fields #[.int lo t,.int hi u,.int 1 v] }
 | .frz o u=>h.get? a=some o∧ObjOk H h a u
 | .tbl ps=>h.get? a=some { cls:=.none,data:=.fields ps }
 | .met f x=>h.get? a=some (PySem.W.methodObj (.ref f) (.ref x))
 | .ext φ=>φ h∧(∃ o,h.get? a=some o)∧∀ h1 h2:Heap,φ h1→(∀ o,h1.get? a=some o→h2.get? a=some o)→φ h2
def HOk (H:Hp) (h:Heap):Prop:=∀ a o,H a=some o→ObjOk P w H h a o
end
section
variable {P:Program}{w:World}{H H':Hp}{h h':Heap}{a:Addr}{o:HO}
theorem ObjOk.lt (x:ObjOk P w H h a o):a < h.objs.size:=by
 cases o with
 | lst xs=>obtain⟨_,_,_,_,e⟩:=x;exact Heap.lt_size e
 | tup xs=>obtain⟨_,_,_,p⟩:=x;exact p.1.lt
 | dK kvs=>obtain⟨_,_,_,_,o,_,_,e,_⟩:=x;exact Heap.lt_size e
 | dT kvs=>obtain⟨_,_,_,_,o,_,_,e,_⟩:=x;exact Heap.lt_size e
 | set S n=>obtain⟨o,_,_,_,e,_⟩:=x;exact Heap.lt_size e
 | ins C dx fs=>obtain⟨_,_,_,e,_⟩:=x;exact Heap.lt_size e
 | own y=>obtain⟨_,e⟩:=x;exact Heap.lt_size e
 | xd fs=>obtain⟨_,⟨_,_,_,e,_⟩,_⟩:=x;exact Heap.lt_size e
 | rng lo hi=>obtain⟨_,_,_,e⟩:=x;exact Heap.lt_size e
 | frz ob u=>obtain⟨e,_⟩:=x;exact Heap.lt_size e
 | tbl ps=>exact Heap.lt_size (show h.get? a=some _ from x)
 | met f y=>exact Heap.lt_size (show h.get? a=some _ from x)
 | ext φ=>obtain⟨_,⟨_,e⟩,_⟩:=x;exact Heap.lt_size e
theorem Paired.mapP {α β:Type}{F G:α→β→Prop}:∀ {l₁:List α}{l₂:List β},Paired F l₁ l₂→(∀ a b,F a b→G a b)→Paired G l₁ l₂
 | _,_,.nil,_=>.nil
 | _,_,.cons r t,f=>.cons (f _ _ r) (Paired.mapP t f)
theorem ObjOk.stay (x:ObjOk P w H h a o) (k:∀ b u,(b=a∨H b=some (.own a))→h.get? b=some u→h'.get? b=some u)
  (ho:∀ b,H b=some (.own a)→H' b=some (.own a)) (ht:∀ b xs,H b=some (.tup xs)→H' b=some (.tup xs)):ObjOk P w H' h' a o:=by
 induction o with
 | lst xs=>obtain⟨z,its,n,r,e⟩:=x;exact⟨z,its,n,r,k _ _ (.inl rfl) e⟩
 | tup xs=>obtain⟨z,its,r,⟨ob,e,c⟩,od,f,d⟩:=x;exact⟨z,its,r,⟨ob,k _ _ (.inl rfl) e,c⟩,od,k _ _ (.inl rfl) f,d⟩
 | dK kvs=>obtain⟨z,y,vs,r,ob,es,ep,e,c⟩:=x;exact⟨z,y,vs,r,ob,es,ep,k _ _ (.inl rfl) e,c⟩
 | dT kvs =>
  obtain⟨z,y,xs,r,ob,es,ep,e,c⟩:=x
  exact⟨z,y,xs,Paired.mapP r fun p q z=>⟨z.1,ht _ _ z.2.1,z.2.2⟩,ob,es,ep,k _ _ (.inl rfl) e,c⟩
 | set S n=>obtain⟨ob,es,ep,t,e,c⟩:=x;exact⟨ob,es,ep,t,k _ _ (.inl rfl) e,c⟩
 | ins C dx fs =>
  obtain⟨d,z,ne,e,mA,⟨od,es,ep,e2,c⟩,r⟩:=x
  exact⟨ho _ d,z,ne,k _ _ (.inl rfl) e,mA,⟨od,es,ep,k _ _ (.inr d) e2,c⟩,r⟩
 | own y=>obtain⟨ob,e⟩:=x;exact⟨ob,k _ _ (.inl rfl) e⟩
 | xd fs=>obtain⟨mA,⟨od,es,ep,e,c⟩,r⟩:=x;exact⟨mA,⟨od,es,ep,k _ _ (.inl rfl) e,c⟩,r⟩
 | rng lo hi=>obtain⟨t,u,v,e⟩:=x;exact⟨t,u,v,k _ _ (.inl rfl) e⟩
 | frz ob u ih=>obtain⟨e,q⟩:=x;exact⟨k _ _ (.inl rfl) e,ih q⟩
 | tbl ps =>
  have e:h.get? a=some { cls:=.none,data:=.fields ps }:=x
  show h'.get? a=some { cls:=.none,data:=.fields ps }
  exact k a _ (.inl rfl) e
 | met f y =>
  have e:h.get? a=some (PySem.W.methodObj (.ref f) (.ref y)):=x
  show h'.get? a=some (PySem.W.methodObj (.ref f) (.ref y))
  exact k a _ (.inl rfl) e
 | ext φ=>obtain⟨p,⟨o,e⟩,st⟩:=x;exact⟨st _ _ p fun o q=>k _ _ (.inl rfl) q,⟨o,k _ _ (.inl rfl) e⟩,st⟩
theorem HOk.lt (x:HOk P w H h) (e:H a=some o):a < h.objs.size:=(x a o e).lt
theorem HOk.fresh (x:HOk P w H h) (e:h.objs.size≤a):H a=none:=by
 cases q:H a with
 | none=>rfl
 | some u=>exact absurd (Nat.lt_of_lt_of_le (x.lt q) e) (Nat.lt_irrefl _)
theorem HOk.kept (x:HOk P w H h) (k:∀ b u,h.get? b=some u→h'.get? b=some u):HOk P w H h':=fun a o e =>
 (x a o e).stay (fun b u _ q=>k b u q) (fun _ q=>q) fun _ _ q=>q
theorem HOk.laid (x:HOk P w H h) (k:∀ b u,h.get? b=some u→h'.get? b=some u) (hp:h.objs.size≤a) (new:ObjOk P w (upd H a o) h' a o):HOk P w (upd H a o) h':=fun b u e=>by
 have hn:=x.fresh hp
 by_cases hb:b=a
 ·subst hb;rw[j07] at e;cases e;exact new
 ·rw[j08 hb] at e
  exact (x b u e).stay (fun c v _ q=>k c v q) (fun c q=>by rw[j08 (j05 q hn)];exact q) fun c xs q=>by rw[j08 (j05 q hn)];exact q
end
def Rd (H:Hp) (a:Addr) (u:HO):Prop:=H a=some u∨∃ o,H a=some (.frz o u)
theorem Rd.of {H:Hp}{a:Addr}{u:HO} (h:H a=some u):Rd H a u:=.inl h
theorem Rd.ok {P:Program}{w:World}{H:Hp}{h:Heap}{a:Addr}{u:HO} (r:Rd H a u) (x:HOk P w H h):ObjOk P w H h a u:=by
 rcases r with r | ⟨o,r⟩
 ·exact x a u r
 ·obtain⟨_,q⟩:=x a _ r
  exact q
def Mut:Option HO→Prop
 | some (.lst _)=>True
 | some (.dK _)=>True
 | some (.dT _)=>True
 | some (.set _ _)=>True
 | some (.ins _ _ _)=>True
 | some (.ext _)=>True
 | _=>False
section
variable {P:Program}{w:World}{H:Hp}{h h':Heap}{x e:Addr}{o':HO}
theorem HOk.write (ok:HOk P w H h) (mu:Mut (H x)) (he:e=x∨H e=some (.own x)) (k:∀ b u,b≠e→h.get? b=some u→h'.get? b=some u) (heo:∃ u,h'.get? e=some u)
  (new:ObjOk P w (upd H x o') h' x o'):HOk P w (upd H x o') h':=fun b u q=>by
 have nown:∀ c y,H c=some (.own y)→c≠x:=fun c y r z=>by subst z;rw[r] at mu;exact mu
 have ntup:∀ c xs,H c=some (.tup xs)→c≠x:=fun c xs r z=>by subst z;rw[r] at mu;exact mu
 by_cases hb:b=x
 ·subst hb;rw[j07] at q;cases q;exact new
 ·rw[j08 hb] at q
  by_cases hbe:b=e
  ·have q':H b=some (.own x):=by
    rcases he with z | z
    ·exact absurd (hbe.trans z) hb
    ·rw[hbe];exact z
   rw[q] at q';cases q'
   obtain⟨v,hv⟩:=heo
   exact⟨v,by rw[hbe];exact hv⟩
  ·refine (ok b u q).stay (fun c v hc r=>k c v ?_ r) (fun c r=>by rw[j08 (nown c b r)];exact r) fun c xs r=>by rw[j08 (ntup c xs r)];exact r
   rcases hc with rfl | hc
   ·exact hbe
   ·rintro rfl
    rcases he with z | z
    ·exact nown c b hc z
    ·rw[hc] at z;cases z;exact hb rfl
end
structure Un (fs ex:List Addr) (H H':Hp) (h h':Heap):Prop where
 keep:∀ b o,h.get? b=some o→H b=none→b∉fs→b∉ex→h'.get? b=some o
 slot:∀ b o,h.get? b=some o→H b=none→b∈fs→b∉ex→∃ sl,h'.get? b=some { o with slots:=sl }
 free:∀ b o,h.get? b=some o→H b=none→b∉ex→H' b=none
 there:∀ b o,h.get? b=some o→b∉ex→∃ o',h'.get? b=some o'
 tups:∀ b xs,H b=some (.tup xs)→H' b=some (.tup xs)
 frzs:∀ b o u,H b=some (.frz o u)→H' b=some (.frz o u)
 tbls:∀ b ps,H b=some (.tbl ps)→∃ more,H' b=some (.tbl (ps++more))
section
variable {fs fs' ex ex':List Addr}{H H1 H2:Hp}{h h1 h2 h':Heap}{a x e:Addr}{o:HO}
theorem Un.any (u:Un fs ex H H1 h h1) {b:Addr}{ob:Obj} (q:h.get? b=some ob) (n:H b=none) (hx:b∉ex):∃ sl,h1.get? b=some { ob with slots:=sl }:=by
 by_cases hb:b∈fs
 ·exact u.slot b ob q n hb hx
 ·exact⟨ob.slots,u.keep b ob q n hb hx⟩
theorem Un.trans (a:Un fs ex H H1 h h1) (b:Un fs ex H1 H2 h1 h2):Un fs ex H H2 h h2 where
 keep:=fun c ob q n hc hx=>b.keep c ob (a.keep c ob q n hc hx) (a.free c ob q n hx) hc hx
 slot:=fun c ob q n hc hx=>by
  obtain⟨sl,e1⟩:=a.slot c ob q n hc hx
  obtain⟨sl',e2⟩:=b.slot c _ e1 (a.free c ob q n hx) hc hx
  exact⟨sl',e2⟩
 free:=fun c ob q n hx=>by
  obtain⟨o',e1⟩:=a.there c ob q hx
  exact b.free c o' e1 (a.free c ob q n hx) hx
 there:=fun c ob q hx=>by
  obtain⟨o',e1⟩:=a.there c ob q hx
  exact b.there c o' e1 hx
 tups:=fun c xs q=>b.tups c xs (a.tups c xs q)
 frzs:=fun c ob xs q=>b.frzs c ob xs (a.frzs c ob xs q)
 tbls:=fun c ps q=>by
  obtain⟨m1,e1⟩:=a.tbls c ps q
  obtain⟨m2,e2⟩:=b.tbls c _ e1
  exact⟨m1++m2,by rw[e2,Array.append_assoc]⟩
theorem Un.kept (k:∀ b u,h.get? b=some u→h'.get? b=some u):Un fs ex H H h h' :=
 ⟨fun b ob q _ _ _=>k b ob q,fun b ob q _ _ _=>⟨ob.slots,k b ob q⟩,fun _ _ _ n _=>n,fun b ob q _=>⟨ob,k b ob q⟩,fun _ _ q=>q,fun _ _ _ q=>q,fun _ ps q=>⟨#[],by rw[q];simp⟩⟩
theorem Un.refl:Un fs ex H H h h:=Un.kept fun _ _ q=>q
theorem Un.laid (k:∀ b u,h.get? b=some u→h'.get? b=some u) (hp:h.objs.size≤a) (hn:H a=none):Un fs ex H (upd H a o) h h' where
 keep:=fun b u q _ _ _=>k b u q
 slot:=fun b u q _ _ _=>⟨u.slots,k b u q⟩
 free:=fun b u q n _=>by rw[j08 (Nat.ne_of_lt (Nat.lt_of_lt_of_le (Heap.lt_size q) hp))];exact n
 there:=fun b u q _=>⟨u,k b u q⟩
 tups:=fun b xs q=>by rw[j08 (j05 q hn)];exact q
 frzs:=fun b u xs q=>by rw[j08 (j05 q hn)];exact q
 tbls:=fun b ps q=>⟨#[],by rw[j08 (j05 q hn),q];simp⟩
theorem Un.write (mu:Mut (H x)) (he:e=x∨H e=some (.own x)) (k:∀ b u,b≠e→h.get? b=some u→h'.get? b=some u) (heo:∃ u,h'.get? e=some u):Un fs ex H (upd H x o) h h':=by
 have hx:∀ b,H b=none→b≠x:=fun b n z=>by subst z;rw[n] at mu;exact mu
 have hb:∀ b,H b=none→b≠e:=fun b n z=>by
  subst z
  rcases he with r | r
  ·exact hx b n r
  ·rw[n] at r;cases r
 have hm:∀ b u,H b=some u→¬ Mut (some u)→b≠x:=fun b u q nm z=>by subst z;rw[q] at mu;exact nm mu
 refine⟨fun b u q n _ _=>k b u (hb b n) q,fun b u q n _ _=>⟨u.slots,k b u (hb b n) q⟩,fun b u q n _=>by rw[j08 (hx b n)];exact n,fun b u q _=>?_,
  fun b xs q=>by rw[j08 (hm b _ q fun z=>z)];exact q,fun b u xs q=>by rw[j08 (hm b _ q fun z=>z)];exact q,fun b ps q=>⟨#[],by rw[j08 (hm b _ q fun z=>z),q];simp⟩⟩
 by_cases hbe:b=e
 ·subst hbe;exact heo
 ·exact⟨u,k b u hbe q⟩
theorem Un.mono (u:Un fs ex H H1 h h1) (hs:∀ b∈fs,b∈fs') (hx:∀ b∈ex,b∈ex'):Un fs' ex' H H1 h h1 :=
 ⟨fun b ob q n hb he=>u.keep b ob q n (fun z=>hb (hs b z)) fun z=>he (hx b z),fun _ _ q n _ he=>u.any q n fun z=>he (hx _ z),fun b ob q n he=>u.free b ob q n fun z=>he (hx b z),fun b ob q he=>u.there b ob q fun z=>he (hx b z),u.tups,u.frzs,u.tbls⟩
end
def trk (h:Heap) (H:Hp):List Addr:=(List.range h.objs.size).filter fun a=>(H a).isSome
def hidT (h:Heap) (H:Hp):Heap:=PySem.W.hideAll h (trk h H)
theorem j7j (h:Heap) (H:Hp):(hidT h H).objs.size=h.objs.size:=PySem.W.hideAll_size _ _
theorem j9h {h:Heap}{H:Hp}{b:Addr}{o:Obj} (e:h.get? b=some o) (n:H b=none):(hidT h H).get? b=some o :=
 PySem.W.hideAll_get _ e fun hm=>by
  have q:(H b).isSome=true:=(List.mem_filter.mp hm).2
  rw[n] at q;simp at q
theorem jdx {h:Heap}{H:Hp}{b:Addr}{o:Obj} (e:(hidT h H).get? b=some o):h.get? b=some o∧H b=none:=by
 have e':h.get? b=some o:=PySem.W.of_hideAll (trk h H) e
 refine⟨e',?_⟩
 cases q:H b with
 | none=>rfl
 | some x =>
  have hm:b∈trk h H:=List.mem_filter.mpr ⟨List.mem_range.mpr (Heap.lt_size e'),by simp[q]⟩
  have z:(hidT h H).get? b=none:=PySem.W.hideAll_none (trk h H) hm
  rw[z] at e;cases e
def jho (g h:Heap) (L:Addr):List (Addr × Obj):=(List.range h.objs.size).filterMap fun a=>if a=L∨(g.get? a).isSome=true then none else (h.get? a).map fun o=>(a,o)
def rest (g h:Heap) (L d:Addr):List (Addr × Obj):=(jho g h L).filter fun p=>decide (p.1≠d)
structure Mod (K:PySem.W.Frag) (mg:Str→Option Value) (base:Heap):Prop where
 kin:K.In base
 glob:base.Ns mainGlobals mg
 blt:∃ mb,base.Ns builtinsNs mb∧∀ x:Str,x≠"__name__"→mb x=bootBuiltins x
 nolimit:base.NoLimit
 bmain:∃ bm ob,mg "__builtins__"=some (.ref bm)∧bm≠builtinsNs∧base.get? bm=some ob∧ob.cls=.type "module"∧ob.dict=some builtinsNs∧ob.data=.plain
structure Cx where
 prog:Program
 w:World
 K:PySem.W.Frag
 mg:Str→Option Value
 base:Heap
 A:Around
 N:List Str
 s₀:Shared
 H₀:Hp
 env:Env
 outer:List Env
 stack:List Env
 ex:List Addr
 fn:Str→Bool
 calm:Bool
 pn:List (Addr × Obj)
 xe:Value→Shared→Prop
def frs (l:List Env):List Addr:=l.filterMap (·.frame)
abbrev Cx.fs (X:Cx):List Addr:=frs X.outer
def Vis (sc:Scope) (x:Str):Prop:=sc.names.lookup x=some .local∨sc.names.lookup x=some .cell∨sc.names.lookup x=some .free
def Loc (sc:Scope) (x:Str):Prop:=sc.names.lookup x=some .local∨sc.names.lookup x=some .cell
def Look (env:Env) (h:Heap) (m:Str→Option Value) (x:Str) (u:Value):Prop :=
 (env.kindOf x=some .local∧m x=some u)∨((env.kindOf x=some .cell∨env.kindOf x=some .free)∧∃ c,env.cells.lookup x=some c∧h.IsCell c (some u))
structure Cx.Ok (X:Cx):Prop where
 mod:Mod X.K X.mg X.base
 kind:X.env.scope.kind=.function
 glob:X.env.globals=mainGlobals
 blt:X.env.builtins=builtinsNs
 above:X.s₀.heap.objs.size≤X.env.locals
 inj:∀ x y c,X.env.cells.lookup x=some c→X.env.cells.lookup y=some c→x=y
 has:∀ x,(X.env.kindOf x=some .cell∨X.env.kindOf x=some .free)→∃ c,X.env.cells.lookup x=some c
 cab:∀ x c,X.fn x=true→X.env.cells.lookup x=some c→X.s₀.heap.objs.size≤c
 hd:X.calm=true→X.A.handled=none
 frames:X.A.frames=some X.stack
 stk:X.stack=X.outer∨(X.stack=X.env :: X.outer∧X.env.frame=some X.env.locals)
 exf:∀ b∈X.ex,b≠X.env.locals∧∀ x c,X.env.cells.lookup x=some c→c≠b
 bs:∀ b o,X.base.get? b=some o→X.s₀.heap.get? b=some o∧X.H₀ b=none
 bsz:X.base.objs.size≤X.s₀.heap.objs.size
 noex:∀ b o,X.base.get? b=some o→b∉X.ex
 exfs:∀ b∈X.ex,b∉X.fs
 funs:X.s₀.heap.FunFrames X.base X.outer
 frf:∀ b∈X.fs,X.H₀ b=none
structure Inv (X:Cx) (pins:List (Addr × Obj)) (σ:List (Option V)) (H:Hp) (s:Shared):Prop where
 ok:X.Ok
 os:s.os=X.s₀.os
 bare:AllBare s.gens
 base:Un X.fs X.ex X.H₀ H X.s₀.heap s.heap
 loc:∃ m,s.heap.Ns X.env.locals m∧∀ (i:Nat) (x:Str) (v:V),X.N[i]?=some x→σ[i]?=some (some v)→Vis X.env.scope x→∃ u,RelV v u∧Look X.env s.heap m x u
 cell:∀ x c,X.env.cells.lookup x=some c→∃ v,s.heap.IsCell c v
 free:H X.env.locals=none
 freeC:∀ x c,X.env.cells.lookup x=some c→H c=none
 pin:∀ p∈X.pn++pins,s.heap.get? p.1=some p.2∧H p.1=none∧p.1≠X.env.locals∧p.1∉X.fs∧∀ v,p.2.data≠.cell v
 hok:HOk X.prog X.w H s.heap
 len:σ.length=X.N.length
section
variable {X:Cx}{pins:List (Addr × Obj)}{σ:List (Option V)}{H H':Hp}{s:Shared}{h':Heap}
theorem Cx.Ok.nofr (ok:X.Ok) {b:Addr}{o:Obj} (e:X.base.get? b=some o):b∉X.fs:=fun hb=>by
 have:=(ok.funs.mem hb).1
 rw[e] at this;cases this
theorem Inv.bs (I:Inv X pins σ H s):∀ b o,X.base.get? b=some o→s.heap.get? b=some o∧H b=none:=fun b o e =>
 ⟨I.base.keep b o (I.ok.bs b o e).1 (I.ok.bs b o e).2 (I.ok.nofr e) (I.ok.noex b o e),I.base.free b o (I.ok.bs b o e).1 (I.ok.bs b o e).2 (I.ok.noex b o e)⟩
theorem Inv.bk (I:Inv X pins σ H s):∀ b o,X.base.get? b=some o→s.heap.get? b=some o:=fun b o e=>(I.bs b o e).1
theorem Inv.mod (I:Inv X pins σ H s):Mod X.K X.mg X.base:=I.ok.mod
theorem Inv.kIn (I:Inv X pins σ H s):X.K.In s.heap:=I.ok.mod.kin.keeps I.bk
theorem Inv.nolimit (I:Inv X pins σ H s):s.heap.NoLimit:=I.ok.mod.nolimit.keeps I.bk
theorem Inv.fr (I:Inv X pins σ H s):∃ m,Fr X.base X.env.locals s.heap m :=
 let ⟨m,hn,_⟩:=I.loc
 ⟨m,hn,I.bk,Nat.le_trans I.ok.bsz I.ok.above⟩
theorem Inv.lt (I:Inv X pins σ H s):X.env.locals < s.heap.objs.size:=let ⟨_,hn,_⟩:=I.loc;hn.lt
theorem Inv.sz (I:Inv X pins σ H s):X.s₀.heap.objs.size≤s.heap.objs.size:=Nat.le_trans I.ok.above (Nat.le_of_lt I.lt)
theorem Inv.nofs (I:Inv X pins σ H s) {a:Addr} (h:s.heap.objs.size≤a):a∉X.fs:=fun hb=>by
 obtain⟨_,o,ho,_⟩:=I.ok.funs.mem hb
 exact absurd (Nat.lt_of_lt_of_le (Heap.lt_size ho) (Nat.le_trans I.sz h)) (Nat.lt_irrefl _)
theorem Inv.cne (I:Inv X pins σ H s):∀ x c,X.env.cells.lookup x=some c→c≠X.env.locals:=fun x c e z=>by
 obtain⟨v,o,ho,hd⟩:=I.cell x c e
 obtain⟨m,⟨o',es,ep,ho',hd',_⟩,_⟩:=I.loc
 rw[z,ho'] at ho;cases ho;rw[hd'] at hd;cases hd
theorem Inv.funs (I:Inv X pins σ H s):s.heap.FunFrames X.base X.outer:=by
 have all:∀ (l:List Env),(∀ b∈frs l,b∈X.fs)→X.s₀.heap.FunFrames X.base l→s.heap.FunFrames X.base l:=by
  intro l
  induction l with
  | nil=>intro _ _;trivial
  | cons env r ih =>
   intro hs hl
   obtain⟨hk,⟨L,o,hf,hn,ho,hd⟩,hr⟩:=hl
   have hL:L∈X.fs:=hs L (by unfold frs;rw[List.filterMap_cons,hf];exact List.mem_cons_self)
   obtain⟨sl,e⟩:=I.base.slot L o ho (I.ok.frf L hL) hL fun z=>I.ok.exfs L z hL
   exact⟨hk,⟨L,_,hf,hn,e,hd⟩,ih (fun b hb=>hs b (by unfold frs;rw[List.filterMap_cons,hf];exact List.mem_cons_of_mem _ hb)) hr⟩
 exact all X.outer (fun _ hb=>hb) I.ok.funs
theorem Inv.stack (I:Inv X pins σ H s):s.heap.FunFrames X.base X.stack:=by
 rcases I.ok.stk with e | ⟨e,hf⟩
 ·rw[e];exact I.funs
 ·rw[e]
  obtain⟨m,hn,_⟩:=I.loc
  refine .cons (by rw[I.ok.kind];decide) hf hn ?_ I.funs
  exact Heap.get?_none_of_le (Nat.le_trans I.ok.bsz I.ok.above)
theorem Inv.stkSub (I:Inv X pins σ H s):∀ b∈frs X.stack,b∈X.env.locals :: X.fs:=fun b hb=>by
 rcases I.ok.stk with e | ⟨e,hf⟩
 ·rw[e] at hb;exact List.mem_cons_of_mem _ hb
 ·rw[e] at hb
  unfold frs at hb
  rw[List.filterMap_cons,hf] at hb
  exact hb
theorem Inv.stkFree (I:Inv X pins σ H s):∀ b∈frs X.stack,H b=none:=fun b hb=>by
 rcases List.mem_cons.mp (I.stkSub b hb) with e | hb
 ·rw[e];exact I.free
 ·obtain⟨_,o,ho,_⟩:=I.ok.funs.mem hb
  exact I.base.free b o ho (I.ok.frf b hb) fun z=>I.ok.exfs b z hb
theorem Inv.step {g':Array GenState}{t':Nat}{d':Drawn}{ch:List Addr} (I:Inv X pins σ H s)
  (hch:∀ b∈ch,(b∈X.ex∨X.s₀.heap.objs.size≤b)∧b≠X.env.locals∧(∀ x c,X.env.cells.lookup x=some c→c≠b)∧∀ p∈X.pn++pins,p.1≠b)
  (keep:∀ b o,b≠X.env.locals→b∉X.fs→b∉ch→s.heap.get? b=some o→H b=none→h'.get? b=some o)
  (slot:∀ b o,b≠X.env.locals→b∈X.fs→b∉ch→s.heap.get? b=some o→H b=none→∃ sl,h'.get? b=some { o with slots:=sl }) (free:∀ b o,b∉ch→s.heap.get? b=some o→H b=none→H' b=none)
  (there:∀ b o,b∉ch→s.heap.get? b=some o→∃ o',h'.get? b=some o')
  (tups:∀ b xs,H b=some (.tup xs)→H' b=some (.tup xs)) (frzs:∀ b o u,H b=some (.frz o u)→H' b=some (.frz o u)) (tbls:∀ b ps,H b=some (.tbl ps)→∃ more,H' b=some (.tbl (ps++more)))
  (ns:∀ m,s.heap.Ns X.env.locals m→h'.Ns X.env.locals m) (hok:HOk X.prog X.w H' h') (hg:AllBare g') :
  Inv X pins σ H' { s with heap:=h',gens:=g',drawn:=d',toks:=t' }:=by
 have neL:∀ b o,X.s₀.heap.get? b=some o→b≠X.env.locals:=fun b o e=>Nat.ne_of_lt (Nat.lt_of_lt_of_le (Heap.lt_size e) I.ok.above)
 have neC:∀ b o,X.s₀.heap.get? b=some o→b∉X.ex→b∉ch:=fun b o e hx hb=>by
  rcases (hch b hb).1 with z | z
  ·exact hx z
  ·exact absurd (Nat.lt_of_lt_of_le (Heap.lt_size e) z) (Nat.lt_irrefl _)
 have cellK:∀ x c,X.env.cells.lookup x=some c→∀ v,s.heap.IsCell c v→h'.IsCell c v:=fun x c e v ⟨o,ho,hd⟩=>by
  have nch:c∉ch:=fun z=>(hch c z).2.2.1 x c e rfl
  by_cases hc:c∈X.fs
  ·obtain⟨sl,q⟩:=slot c o (I.cne x c e) hc nch ho (I.freeC x c e)
   exact⟨_,q,hd⟩
  ·exact⟨o,keep c o (I.cne x c e) hc nch ho (I.freeC x c e),hd⟩
 refine⟨I.ok,I.os,hg,⟨fun b o e n hb hx=>?_,fun b o e n hb hx=>?_,fun b o e n hx=>?_,fun b o e hx=>?_,fun b xs e=>tups b xs (I.base.tups b xs e),fun b o xs e=>frzs b o xs (I.base.frzs b o xs e),fun b ps e=>?_⟩,?_,fun x c e=>?_,?_,fun x c e=>?_,fun p hp=>?_,hok,I.len⟩
 ·exact keep b o (neL b o e) hb (neC b o e hx) (I.base.keep b o e n hb hx) (I.base.free b o e n hx)
 ·obtain⟨sl,e1⟩:=I.base.slot b o e n hb hx
  obtain⟨sl',e2⟩:=slot b _ (neL b o e) hb (neC b o e hx) e1 (I.base.free b o e n hx)
  exact⟨sl',e2⟩
 ·obtain⟨o',e1⟩:=I.base.there b o e hx
  exact free b o' (neC b o e hx) e1 (I.base.free b o e n hx)
 ·obtain⟨o',e1⟩:=I.base.there b o e hx
  exact there b o' (neC b o e hx) e1
 ·obtain⟨m1,e1⟩:=I.base.tbls b ps e
  obtain⟨m2,e2⟩:=tbls b _ e1
  exact⟨m1++m2,by rw[e2,Array.append_assoc]⟩
 ·obtain⟨m,hn,hl⟩:=I.loc
  refine⟨m,ns m hn,fun i x v e1 e2 e3=>?_⟩
  obtain⟨u,r,l⟩:=hl i x v e1 e2 e3
  refine⟨u,r,?_⟩
  rcases l with l | ⟨k,c,e,z⟩
  ·exact .inl l
  ·exact .inr ⟨k,c,e,cellK x c e _ z⟩
 ·obtain⟨v,z⟩:=I.cell x c e
  exact⟨v,cellK x c e v z⟩
 ·obtain⟨m,⟨o,_,_,ho,_⟩,_⟩:=I.loc
  exact free _ o (fun z=>(hch _ z).2.1 rfl) ho I.free
 ·obtain⟨v,o,ho,hd⟩:=I.cell x c e
  exact free c o (fun z=>(hch c z).2.2.1 x c e rfl) ho (I.freeC x c e)
 ·obtain⟨e,n,ne,nf,d⟩:=I.pin p hp
  have nch:p.1∉ch:=fun z=>(hch p.1 z).2.2.2 p hp rfl
  exact⟨keep p.1 p.2 ne nf nch e n,free p.1 p.2 nch e n,ne,nf,d⟩
theorem Inv.un {t':Nat} (I:Inv X pins σ H s) (u:Un X.fs [] H H' s.heap h') (hok:HOk X.prog X.w H' h'):Inv X pins σ H' { s with heap:=h',toks:=t' }:=by
 obtain⟨m,⟨o,es,ep,ho,r⟩,_⟩:=id I.loc
 obtain⟨sl,hL⟩:=u.any ho I.free (by simp)
 exact I.step (g':=s.gens) (d':=s.drawn) (ch:=[]) (fun _ z=>nomatch z) (fun b o _ hb _ e n=>u.keep b o e n hb (by simp)) (fun b o _ hb _ e n=>u.slot b o e n hb (by simp)) (fun b o _ e n=>u.free b o e n (by simp)) (fun b o _ e=>u.there b o e (by simp)) u.tups u.frzs u.tbls (fun m' hm=>by
  obtain⟨o',es',ep',ho',r'⟩:=hm
  rw[ho] at ho';cases ho'
  exact⟨_,es',ep',hL,r'⟩) hok I.bare
theorem Inv.call {g':Array GenState}{t':Nat}{d':Drawn}{ch:List Addr} (I:Inv X pins σ H s) (u:Un (frs X.stack) ch H H' s.heap h') (hok:HOk X.prog X.w H' h') (hg:AllBare g')
  (hch:∀ b∈ch,(b∈X.ex∨X.s₀.heap.objs.size≤b)∧b≠X.env.locals∧(∀ x c,X.env.cells.lookup x=some c→c≠b)∧∀ p∈X.pn++pins,p.1≠b) :
  Inv X pins σ H' { s with heap:=h',gens:=g',drawn:=d',toks:=t' }:=by
 obtain⟨m,⟨o,es,ep,ho,r⟩,_⟩:=id I.loc
 obtain⟨sl,hL⟩:=u.any ho I.free fun z=>(hch _ z).2.1 rfl
 exact I.step (ch:=ch) hch (fun b o hL hb hc e n=>u.keep b o e n (fun z=>(List.mem_cons.mp (I.stkSub b z)).elim hL hb) hc) (fun b o _ _ hc e n=>u.any e n hc) (fun b o hc e n=>u.free b o e n hc) (fun b o hc e=>u.there b o e hc) u.tups u.frzs u.tbls (fun m' hm=>by
  obtain⟨o',es',ep',ho',r'⟩:=hm
  rw[ho] at ho';cases ho'
  exact⟨_,es',ep',hL,r'⟩) hok hg
theorem Inv.turned {t':Nat}{it:Addr} (I:Inv X pins σ H s) (k:∀ b o,b≠it→s.heap.get? b=some o→h'.get? b=some o) (hn:H it=none) (hL:it≠X.env.locals)
  (h1:it∈X.ex∨X.s₀.heap.objs.size≤it) (h2:∀ x c,X.env.cells.lookup x=some c→c≠it) (h3:∀ p∈X.pn++pins,p.1≠it):Inv X pins σ H { s with heap:=h',toks:=t' }:=by
 have nit:∀ b u,H b=some u→b≠it:=fun b u e z=>by rw[z,hn] at e;cases e
 refine I.step (g':=s.gens) (d':=s.drawn) (ch:=[it]) (fun b hb=>?_) (fun b o _ _ hc e _=>k b o (fun z=>hc (by simp[z])) e) (fun b o _ _ hc e _=>⟨o.slots,k b o (fun z=>hc (by simp[z])) e⟩) (fun _ _ _ _ n=>n)
  (fun b o hc e=>⟨o,k b o (fun z=>hc (by simp[z])) e⟩) (fun _ _ e=>e) (fun _ _ _ e=>e) (fun b ps e=>⟨#[],by rw[e];simp⟩) (fun m hm=>?_) (fun b u e=>?_) I.bare
 ·have e:b=it:=by simpa using hb
  subst e
  exact⟨h1,hL,h2,h3⟩
 ·obtain⟨o,es,ep,ho,r⟩:=hm
  exact⟨o,es,ep,k _ o (Ne.symm hL) ho,r⟩
 ·refine (I.hok b u e).stay (fun c v hc q=>k c v ?_ q) (fun _ q=>q) fun _ _ q=>q
  rcases hc with z | z
  ·rw[z];exact nit b u e
  ·exact nit c _ z
theorem Inv.tok (I:Inv X pins σ H s) (t:Nat):Inv X pins σ H { s with toks:=t }:=I.un (h':=s.heap) (t':=t) Un.refl I.hok
theorem Inv.kept {t':Nat} (I:Inv X pins σ H s) (k:∀ b u,s.heap.get? b=some u→h'.get? b=some u):Inv X pins σ H { s with heap:=h',toks:=t' }:=I.un (Un.kept k) (I.hok.kept k)
theorem Inv.laid {a:Addr}{o:HO}{t':Nat} (I:Inv X pins σ H s) (k:∀ b u,s.heap.get? b=some u→h'.get? b=some u) (hp:s.heap.objs.size≤a) (new:ObjOk X.prog X.w (upd H a o) h' a o) :
  Inv X pins σ (upd H a o) { s with heap:=h',toks:=t' }:=I.un (Un.laid k hp (I.hok.fresh hp)) (I.hok.laid k hp new)
theorem Inv.write {x e:Addr}{o:HO}{t':Nat} (I:Inv X pins σ H s) (mu:Mut (H x)) (he:e=x∨H e=some (.own x)) (k:∀ b u,b≠e→s.heap.get? b=some u→h'.get? b=some u) (heo:∃ u,h'.get? e=some u)
  (new:ObjOk X.prog X.w (upd H x o) h' x o):Inv X pins σ (upd H x o) { s with heap:=h',toks:=t' }:=I.un (Un.write mu he k heo) (I.hok.write mu he k heo new)
theorem Inv.pins_of {pins':List (Addr × Obj)} (I:Inv X pins σ H s) (h:∀ p∈pins',s.heap.get? p.1=some p.2∧H p.1=none∧p.1≠X.env.locals∧p.1∉X.fs∧∀ v,p.2.data≠.cell v):Inv X pins' σ H s :=
 ⟨I.ok,I.os,I.bare,I.base,I.loc,I.cell,I.free,I.freeC,fun p hp=>(List.mem_append.mp hp).elim (fun z=>I.pin p (List.mem_append_left _ z)) (h p),I.hok,I.len⟩
theorem j6d {N:List Str} (hN:N.Nodup) {i j:Nat}{x:Str} (a:N[i]?=some x) (b:N[j]?=some x):i=j:=by
 obtain⟨h1,e1⟩:=List.getElem?_eq_some_iff.mp a
 obtain⟨h2,e2⟩:=List.getElem?_eq_some_iff.mp b
 exact (List.getElem_inj hN).mp (e1.trans e2.symm)
theorem jcd {M:Model}{A:Around}{E:Value→Shared→Prop}{i:Nat}{x:Str}{v:V}{u:Value}{Q:Unit→Shared→Prop} (I:Inv X pins σ H s) (hN:X.N.Nodup) (hi:X.N[i]?=some x) (hx:Loc X.env.scope x) (r:RelV v u)
  (h:∀ s',Inv X pins (σ.set i (some v)) H s'→(∃ a,Heap.SameBut a s.heap s'.heap∧(a=X.env.locals∨X.env.cells.lookup x=some a))→Q () s') (hf:X.fn x=true∨X.env.scope.names.lookup x=some .local:=by first | exact .inl rfl | exact .inr rfl | assumption):wpAny M A (storeName X.env x u) Q E s:=by
 obtain⟨m,hn,hl⟩:=id I.loc
 have hcls:(X.env.scope.kind == .class || (X.env.scope.kind == .module && X.env.locals != X.env.globals))=false:=by rw[I.ok.kind];rfl
 have hiσ:i < σ.length:=by rw[I.len];exact (List.getElem?_eq_some_iff.mp hi).1
 have cne:=I.cne
 have tracked:∀ {a:Addr}{h':Heap},(∃ o,s.heap.get? a=some o∧H a=none)→Heap.SameBut a s.heap h'→HOk X.prog X.w H h':=fun {a h'} ha hs b ob e=>by
  obtain⟨_,_,hfree⟩:=ha
  refine (I.hok b ob e).stay (fun c w' hc q=>(hs.2 c ?_).trans q) (fun _ q=>q) fun _ _ q=>q
  rintro rfl
  rcases hc with rfl | hc
  ·rw[hfree] at e;cases e
  ·rw[hfree] at hc;cases hc
 rcases hx with hk | hk
 ·refine wpAny_storeName_local hk hn (fun h' hn' hs=>?_) hcls
  obtain⟨oL,_,_,hoL,_⟩:=id hn
  refine h _ ⟨I.ok,I.os,I.bare,⟨fun b o e n hb hx=>?_,fun b o e n hb hx=>?_,I.base.free,fun b o e hx=>?_,I.base.tups,I.base.frzs,I.base.tbls⟩,⟨_,hn',fun j y v' e1 e2 e3=>?_⟩,fun y c e=>?_,I.free,I.freeC,fun p hp=>?_,tracked ⟨oL,hoL,I.free⟩ hs,by simpa using I.len⟩ ⟨_,hs,.inl rfl⟩
  ·exact (hs.2 b (Nat.ne_of_lt (Nat.lt_of_lt_of_le (Heap.lt_size e) I.ok.above))).trans (I.base.keep b o e n hb hx)
  ·obtain⟨sl,e1⟩:=I.base.slot b o e n hb hx
   exact⟨sl,(hs.2 b (Nat.ne_of_lt (Nat.lt_of_lt_of_le (Heap.lt_size e) I.ok.above))).trans e1⟩
  ·obtain⟨o',e1⟩:=I.base.there b o e hx
   exact⟨o',(hs.2 b (Nat.ne_of_lt (Nat.lt_of_lt_of_le (Heap.lt_size e) I.ok.above))).trans e1⟩
  ·by_cases hj:j=i
   ·subst hj
    rw[hi] at e1;cases e1
    rw[List.getElem?_set_self hiσ] at e2
    cases e2
    exact⟨u,r,.inl ⟨hk,by simp⟩⟩
   ·rw[List.getElem?_set_ne (Ne.symm hj)] at e2
    obtain⟨u',r',q⟩:=hl j y v' e1 e2 e3
    refine⟨u',r',?_⟩
    rcases q with⟨k,e⟩ | ⟨k,c,e,z⟩
    ·refine .inl ⟨k,?_⟩
     have:y≠x:=fun e=>hj (j6d hN e1 (e ▸ hi))
     simp[this,e]
    ·exact .inr ⟨k,c,e,z.sameBut hs (cne y c e)⟩
  ·obtain⟨w',z⟩:=I.cell y c e
   exact⟨w',z.sameBut hs (cne y c e)⟩
  ·obtain⟨e,n,ne,nf,d⟩:=I.pin p hp
   exact⟨(hs.2 p.1 ne).trans e,n,ne,nf,d⟩
 ·have hfn:X.fn x=true:=by
   rcases hf with z | z
   ·exact z
   ·rw[z] at hk;cases hk
  obtain⟨c,hc⟩:=I.ok.has x (.inl hk)
  obtain⟨w',z⟩:=I.cell x c hc
  refine wpAny_storeName_cell I.ok.kind hk hc z (fun h' hc' hs=>?_)
  obtain⟨oc,hoc,hocd⟩:=id z
  refine h { s with heap:=h' } ⟨I.ok,I.os,I.bare,⟨fun b o e n hb hx=>?_,fun b o e n hb hx=>?_,I.base.free,fun b o e hx=>?_,I.base.tups,I.base.frzs,I.base.tbls⟩,⟨m,hn.sameBut hs (Ne.symm (cne x c hc)),fun j y v' e1 e2 e3=>?_⟩,fun y c' e=>?_,I.free,I.freeC,fun p hp=>?_,tracked ⟨oc,hoc,I.freeC x c hc⟩ hs,by simpa using I.len⟩ ⟨c,hs,.inr hc⟩
  ·exact (hs.2 b (Nat.ne_of_lt (Nat.lt_of_lt_of_le (Heap.lt_size e) (I.ok.cab x c hfn hc)))).trans (I.base.keep b o e n hb hx)
  ·obtain⟨sl,e1⟩:=I.base.slot b o e n hb hx
   exact⟨sl,(hs.2 b (Nat.ne_of_lt (Nat.lt_of_lt_of_le (Heap.lt_size e) (I.ok.cab x c hfn hc)))).trans e1⟩
  ·obtain⟨o',e1⟩:=I.base.there b o e hx
   exact⟨o',(hs.2 b (Nat.ne_of_lt (Nat.lt_of_lt_of_le (Heap.lt_size e) (I.ok.cab x c hfn hc)))).trans e1⟩
  ·by_cases hj:j=i
   ·subst hj
    rw[hi] at e1;cases e1
    rw[List.getElem?_set_self hiσ] at e2
    cases e2
    exact⟨u,r,.inr ⟨.inl hk,c,hc,hc'⟩⟩
   ·rw[List.getElem?_set_ne (Ne.symm hj)] at e2
    obtain⟨u',r',q⟩:=hl j y v' e1 e2 e3
    refine⟨u',r',?_⟩
    rcases q with q | ⟨k,c',e,z'⟩
    ·exact .inl q
    ·refine .inr ⟨k,c',e,z'.sameBut hs ?_⟩
     rintro rfl
     exact hj (j6d hN e1 (I.ok.inj _ _ _ e hc ▸ hi))
  ·by_cases hcc:c'=c
   ·subst hcc;exact⟨_,hc'⟩
   ·obtain⟨w2,z2⟩:=I.cell y c' e
    exact⟨w2,z2.sameBut hs hcc⟩
  ·obtain⟨e,n,ne,nf,d⟩:=I.pin p hp
   refine⟨(hs.2 p.1 ?_).trans e,n,ne,nf,d⟩
   intro q
   rw[q,hoc] at e
   have q':oc=p.2:=Option.some.inj e
   exact d w' (by rw[← q'];exact hocd)
theorem j6e {M:Model}{A:Around}{E:Value→Shared→Prop}{i:Nat}{x:Str}{v:V}{u:Value}{Q:Unit→Shared→Prop} (I:Inv X pins σ H s) (hN:X.N.Nodup) (hi:X.N[i]?=some x) (hx:Loc X.env.scope x) (r:RelV v u)
  (h:∀ s',Inv X pins (σ.set i (some v)) H s'→Q () s') (hf:X.fn x=true∨X.env.scope.names.lookup x=some .local:=by first | exact .inl rfl | exact .inr rfl | assumption):wpAny M A (storeName X.env x u) Q E s :=
 jcd I hN hi hx r (fun s' I' _=>h s' I') hf
theorem Inv.call' {s':Shared}{ch:List Addr} (I:Inv X pins σ H s) (ho:s'.os=s.os) (u:Un (frs X.stack) ch H H' s.heap s'.heap) (hok:HOk X.prog X.w H' s'.heap) (hg:AllBare s'.gens)
  (hch:∀ b∈ch,(b∈X.ex∨X.s₀.heap.objs.size≤b)∧b≠X.env.locals∧(∀ x c,X.env.cells.lookup x=some c→c≠b)∧∀ p∈X.pn++pins,p.1≠b):Inv X pins σ H' s':=by
 obtain⟨h',g',d',t',o'⟩:=s'
 have e:o'=s.os:=ho
 subst e
 exact I.call (g':=g') (t':=t') (d':=d') u hok hg hch
end
abbrev XK:=Value→Option Addr→Hp→Prop
abbrev St:=List (Option V)
abbrev VK:=V→Hp→Prop
abbrev TE:=St→Hp→VK→Prop
abbrev TT:=St→Hp→(Bool→Hp→Prop)→Prop
abbrev TA:=St→Hp→(List V→Hp→Prop)→Prop
structure Ends where
 nx:St→Hp→Prop
 rt:VK
 bk:St→Hp→Prop:=fun _ _=>False
 ct:St→Hp→Prop:=fun _ _=>False
abbrev TS:=Ends→St→Hp→Prop
def EP (X:Cx) (pins:List (Addr × Obj)) (σ:St) (Q:VK) (u:Value) (s':Shared):Prop:=∃ v H',Inv X pins σ H' s'∧RelV v u∧Q v H'
def TP (X:Cx) (pins:List (Addr × Obj)) (σ:St) (Q:Bool→Hp→Prop) (b:Bool) (s':Shared):Prop:=∃ H',Inv X pins σ H' s'∧Q b H'
def AP (X:Cx) (pins:List (Addr × Obj)) (σ:St) (Q:List V→Hp→Prop) (us:List Value) (s':Shared):Prop:=∃ vs H',Inv X pins σ H' s'∧Vals vs us∧Q vs H'
def SP (X:Cx) (pins:List (Addr × Obj)) (D:Ends) (f:Flow) (s':Shared):Prop :=
 match f with
 | .next=>∃ σ' H',Inv X pins σ' H' s'∧D.nx σ' H'
 | .brk=>∃ σ' H',Inv X pins σ' H' s'∧D.bk σ' H'
 | .cont=>∃ σ' H',Inv X pins σ' H' s'∧D.ct σ' H'
 | .ret u=>∃ v σ' H',Inv X pins σ' H' s'∧RelV v u∧D.rt v H'
def PE (X:Cx) (e:Expr) (t:TE):Prop :=
 ∀ (pins:List (Addr × Obj)) (s:Shared) (σ:St) (H:Hp) (Q:VK),Inv X pins σ H s→t σ H Q→wpAny (model X.prog X.w) X.A (eval e X.env) (EP X pins σ Q) X.xe s
def PT (X:Cx) (e:Expr) (t:TT):Prop :=
 ∀ (pins:List (Addr × Obj)) (s:Shared) (σ:St) (H:Hp) (Q:Bool→Hp→Prop),Inv X pins σ H s→t σ H Q→wpAny (model X.prog X.w) X.A (isTrue e X.env (eval e X.env)) (TP X pins σ Q) X.xe s
def PW (X:Cx) (e:Expr) (t:TT):Prop :=
 ∀ (whole:Sem Value) (pins:List (Addr × Obj)) (s:Shared) (σ:St) (H:Hp) (Q:Bool→Hp→Prop),Inv X pins σ H s→t σ H Q→wpAny (model X.prog X.w) X.A (isTrue e X.env whole) (TP X pins σ Q) X.xe s
theorem PW.pt {X:Cx}{e:Expr}{t:TT} (h:PW X e t):PT X e t:=h _
def PA (X:Cx) (es:List Expr) (t:TA):Prop :=
 ∀ (pos:Pos) (pins:List (Addr × Obj)) (s:Shared) (σ:St) (H:Hp) (Q:List V→Hp→Prop),Inv X pins σ H s→t σ H Q→wpAny (model X.prog X.w) X.A (spliced (backTo pos (starEach es X.env))) (AP X pins σ Q) X.xe s
def PS (X:Cx) (st:Stmt) (t:TS):Prop :=
 ∀ (pins:List (Addr × Obj)) (s:Shared) (σ:St) (H:Hp) (D:Ends),Inv X pins σ H s→t D σ H→wpAny (model X.prog X.w) X.A (exec st X.env) (SP X pins D) X.xe s
def PSs (X:Cx) (st:List Stmt) (t:TS):Prop :=
 ∀ (pins:List (Addr × Obj)) (s:Shared) (σ:St) (H:Hp) (D:Ends),Inv X pins σ H s→t D σ H→wpAny (model X.prog X.w) X.A (execs st X.env) (SP X pins D) X.xe s
theorem thn {α:Type}{t:Sem α}{Q Q':α→Shared→Prop}{M:Model}{A:Around}{E:Value→Shared→Prop}{s:Shared} (h:wpAny M A t Q E s) (hQ:∀ a s,Q a s→Q' a s):wpAny M A t Q' E s:=wpAny_mono h hQ fun _ _ x=>x
section
variable {X:Cx}
theorem bin {a b:Expr}{ta tb:TE} (ha:PE X a ta) (hb:PE X b tb) {pins:List (Addr × Obj)}{s:Shared}{σ:St}{H:Hp}{R:V→V→Hp→Prop} (I:Inv X pins σ H s) (h:ta σ H fun x H1=>tb σ H1 fun y H2=>R x y H2)
  {α:Type}{Q:α→Shared→Prop}{f:Value→Value→Sem α}
  (hf:∀ v u s2 x y H2,Inv X pins σ H2 s2→RelV x v→RelV y u→R x y H2→wpAny (model X.prog X.w) X.A (f v u) Q X.xe s2) :
  wpAny (model X.prog X.w) X.A (eval a X.env) (fun v s₁=>wpAny (model X.prog X.w) X.A (eval b X.env) (fun u s₂=>wpAny (model X.prog X.w) X.A (f v u) Q X.xe s₂) X.xe s₁) X.xe s:=by
 refine thn (ha pins s σ H _ I h) fun v s1 ⟨x,H1,I1,r1,q1⟩=>?_
 refine thn (hb pins s1 σ H1 _ I1 q1) fun u s2 ⟨y,H2,I2,r2,q2⟩=>?_
 exact hf v u s2 x y H2 I2 r1 r2 q2
def tVar (i:Nat):TE:=fun σ H Q=>∃ v,σ[i]?=some (some v)∧Q v H
def tC (v:V):TE:=fun _ H Q=>Q v H
theorem jhp {i:Nat}{x:Str}{pos:Pos} (hN:X.N[i]?=some x) (hv:Vis X.env.scope x) (hd:(x == ("__debug__":Str))=false:=by decide) (hcd:(x == ("__classdict__":Str))=false:=by decide):PE X (.Name x pos) (tVar i):=by
 intro pins s σ H Q I h
 obtain⟨v,e,h⟩:=h
 obtain⟨m,hn,hl⟩:=I.loc
 obtain⟨u,r,l⟩:=hl i x v hN e hv
 have fin:EP X pins σ Q u s:=⟨v,H,I,r,h⟩
 rcases l with⟨hk,hm⟩ | ⟨hk,c,hc,hcell⟩
 ·exact wpAny_Name (wpAny_loadName_local I.ok.kind hk hn hm fin) hd
 ·rcases hk with hk | hk
  ·exact wpAny_Name (wpAny_loadName_cell I.ok.kind hk hc hcell fin) hd
  ·exact wpAny_Name (wpAny_loadName_free I.ok.kind hk hc hcell fin hcd) hd
theorem j0c {i j pos}:PE X (.Constant (.int i) j pos) (tC (.int i)):=fun _ _ _ H _ I h=>wpAny_Constant_int ⟨.int i,H,I.tok _,⟨_,rfl⟩,h⟩
theorem j3z {b j pos}:PE X (.Constant (.bool b) j pos) (tC (.bl b)):=fun _ _ _ H _ I h=>Constant_bool ⟨.bl b,H,I,rfl,h⟩
theorem j9i {j pos}:PE X (.Constant .none j pos) (tC .non):=fun _ _ _ H _ I h=>Constant_none ⟨.non,H,I,rfl,h⟩
theorem jce {x j pos}:PE X (.Constant (.str x) j pos) (tC (.str x)):=fun _ _ _ H _ I h=>Calls.Constant_str ⟨.str x,H,I.tok _,⟨_,rfl⟩,h⟩
def Gl (X:Cx) (x:Str):Prop:=X.env.kindOf x=some .globalImplicit
theorem j7k {E:Value→Shared→Prop}{pins:List (Addr × Obj)}{s:Shared}{σ:St}{H:Hp}{x:Str}{u:Value}{pos:Pos}{Q:Value→Shared→Prop} (I:Inv X pins σ H s) (hg:Gl X x) (hm:X.mg x=some u) (h:Q u s)
  (hd:(x == ("__debug__":Str))=false:=by decide):wpAny (model X.prog X.w) X.A (eval (.Name x pos) X.env) Q E s :=
 Calls.Name_function_global I.ok.kind hg (Calls.loadGlobal_global (by rw[I.ok.glob];exact I.mod.glob.keeps I.bk) hm h) hd
theorem j1y {E:Value→Shared→Prop}{pins:List (Addr × Obj)}{s:Shared}{σ:St}{H:Hp}{x:Str}{u:Value}{pos:Pos}{Q:Value→Shared→Prop} (I:Inv X pins σ H s) (hg:Gl X x) (hm:X.mg x=none) (hv:bootBuiltins x=some u) (h:Q u s)
  (hn:x≠"__name__":=by decide) (hd:(x == ("__debug__":Str))=false:=by decide):wpAny (model X.prog X.w) X.A (eval (.Name x pos) X.env) Q E s:=by
 obtain⟨mb,h1,h2⟩:=I.mod.blt
 exact Calls.Name_function_global I.ok.kind hg (Calls.loadGlobal_builtin (by rw[I.ok.glob];exact I.mod.glob.keeps I.bk) hm (by rw[I.ok.blt];exact h1.keeps I.bk) ((h2 x hn).trans hv) h) hd
theorem j7l {x:Str}{v:V}{u:Value}{pos:Pos} (hg:Gl X x) (hm:X.mg x=some u) (r:RelV v u) (hd:(x == ("__debug__":Str))=false:=by decide):PE X (.Name x pos) (tC v) :=
 fun _ _ _ H _ I h=>j7k I hg hm ⟨v,H,I,r,h⟩ hd
theorem j0r {x:Str}{v:V}{u:Value}{pos:Pos} (hg:Gl X x) (hm:X.mg x=none) (hv:bootBuiltins x=some u) (r:RelV v u) (hn:x≠"__name__":=by decide) (hd:(x == ("__debug__":Str))=false:=by decide):PE X (.Name x pos) (tC v) :=
 fun _ _ _ H _ I h=>j1y I hg hm hv ⟨v,H,I,r,h⟩ hn hd
variable {a b:Expr}{ta tb:TE}{pos:Pos}
variable {tA tB':TT}{rest:List Expr}
def tAnd (t u:TT):TT:=fun σ H Q=>t σ H fun c H1=>if c=true then u σ H1 Q else Q false H1
def tOr (t u:TT):TT:=fun σ H Q=>t σ H fun c H1=>if c=true then Q true H1 else u σ H1 Q
def tNot (t:TT):TT:=fun σ H Q=>t σ H fun c H1=>Q (!c) H1
theorem jdy (ha:PT X a tA):PW X (.BoolOp .And [a] pos) tA:=by
 intro wh pins s σ H Q I h
 refine isTrue_and (thn (ha pins s σ H Q I h) fun c s1 e=>?_)
 cases c with
 | true=>exact isTrue_and_nil e
 | false=>exact e
theorem j2x (ha:PT X a tA):PW X (.BoolOp .Or [a] pos) tA:=by
 intro wh pins s σ H Q I h
 refine isTrue_or (thn (ha pins s σ H Q I h) fun c s1 e=>?_)
 cases c with
 | false=>exact isTrue_or_nil e
 | true=>exact e
theorem jhq (ha:PT X a tA) (hb:PW X (.BoolOp .And (b :: rest) pos) tB'):PW X (.BoolOp .And (a :: b :: rest) pos) (tAnd tA tB'):=by
 intro wh pins s σ H Q I h
 refine isTrue_and (thn (ha pins s σ H _ I h) fun c s1 ⟨H1,I1,q1⟩=>?_)
 cases c with
 | true=>exact hb wh pins s1 σ H1 Q I1 q1
 | false=>exact⟨H1,I1,q1⟩
theorem j6f (ha:PT X a tA) (hb:PW X (.BoolOp .Or (b :: rest) pos) tB'):PW X (.BoolOp .Or (a :: b :: rest) pos) (tOr tA tB'):=by
 intro wh pins s σ H Q I h
 refine isTrue_or (thn (ha pins s σ H _ I h) fun c s1 ⟨H1,I1,q1⟩=>?_)
 cases c with
 | true=>exact⟨H1,I1,q1⟩
 | false=>exact hb wh pins s1 σ H1 Q I1 q1
theorem j12 (ha:PT X a tA):PT X (.UnaryOp .Not a pos) (tNot tA):=by
 intro pins s σ H Q I h
 exact isTrue_not (ha pins s σ H (fun c H1=>Q (!c) H1) I h)
def tAndV (ta tb:TE):TE:=fun σ H Q=>ta σ H fun x H1=>∃ c,x=.bl c∧if c=true then tb σ H1 Q else Q (.bl false) H1
def tNotV (ta:TE):TE:=fun σ H Q=>ta σ H fun x H1=>∃ c,x=.bl c∧Q (.bl (!c)) H1
theorem j6g {op}{t:TE} (h:PE X a t):PE X (.BoolOp op [a] pos) t:=fun pins s σ H Q I hw=>BoolOp_one (h pins s σ H Q I hw)
theorem j59 (ha:PE X a ta) (hb:PE X (.BoolOp .And (b :: rest) pos) tb):PE X (.BoolOp .And (a :: b :: rest) pos) (tAndV ta tb):=by
 intro pins s σ H Q I h
 refine BoolOp_and (thn (ha pins s σ H _ I h) fun v s1 ⟨x,H1,I1,r1,q1⟩=>?_)
 obtain⟨c,rfl,q1⟩:=q1
 cases r1
 refine wpAny_truthy_bool ?_
 cases c with
 | true=>exact hb pins s1 σ H1 Q I1 q1
 | false=>exact⟨.bl false,H1,I1,rfl,q1⟩
theorem pe_not (ha:PE X a ta):PE X (.UnaryOp .Not a pos) (tNotV ta):=by
 intro pins s σ H Q I h
 refine UnaryOp_ (thn (ha pins s σ H _ I h) fun v s1 ⟨x,H1,I1,r1,q1⟩=>?_)
 obtain⟨c,rfl,q1⟩:=q1
 cases r1
 exact not_of (wpAny_truthy_bool ⟨.bl (!c),H1,I1,rfl,q1⟩)
end
def SqL (K:PySem.W.Frag) (H:Hp) (a:Addr) (xs:List V):Prop :=
 Rd H a (.lst xs) ∨
  ∃ (o:Obj) (its:Array Value) (n:Nat),K.lookup a=some o∧o.cls=.type "list"∧o.dict=none∧o.data=.seq its n∧its.size≤sizeLine∧Vals xs its.toList
def SqT (K:PySem.W.Frag) (H:Hp) (a:Addr) (xs:List V):Prop :=
 Rd H a (.tup xs) ∨
  ∃ (o:Obj) (its:Array Value) (n:Nat),K.lookup a=some o∧o.cls=.type "tuple"∧o.data=.seq its n∧its.size≤sizeLine∧Vals xs its.toList
def absV:Value→Option V
 | .none=>some .non
 | .bool b=>some (.bl b)
 | .int i _=>some (.int i)
 | .str x _=>some (.str x)
 | .bytes b _=>some (.byt b)
 | .float b _=>some (.flt b)
 | .ref a=>some (.ref a)
 | .type n=>some (.ty n)
 | _=>none
theorem RelV.abs {x:V}{u:Value} (r:RelV x u):absV u=some x:=by
 cases x with
 | non=>cases r;rfl
 | bl _=>cases r;rfl
 | int _=>obtain⟨t,rfl⟩:=r;rfl
 | str _=>obtain⟨t,rfl⟩:=r;rfl
 | byt _=>obtain⟨t,rfl⟩:=r;rfl
 | flt _=>obtain⟨t,rfl⟩:=r;rfl
 | ref _=>cases r;rfl
 | ty _=>cases r;rfl
theorem RelV.inj {x y:V}{u:Value} (r:RelV x u) (q:RelV y u):x=y:=Option.some.inj (r.abs.symm.trans q.abs)
theorem Vals.inj:∀ {xs ys:List V}{us:List Value},Vals xs us→Vals ys us→xs=ys
 | _,_,_,.nil,.nil=>rfl
 | _,_,_,.cons r t,.cons r' t'=>by rw[r.inj r',Vals.inj t t']
section
variable {X:Cx}{pins:List (Addr × Obj)}{σ:St}{H:Hp}{s:Shared}{a:Addr}{xs ys:List V}
theorem SqL.of {K:PySem.W.Frag} (h:H a=some (.lst xs)):SqL K H a xs:=.inl (.inl h)
theorem SqT.of {K:PySem.W.Frag} (h:H a=some (.tup xs)):SqT K H a xs:=.inl (.inl h)
theorem Inv.list (I:Inv X pins σ H s) (h:SqL X.K H a xs):∃ its:List Value,Vals xs its∧PlainL s.heap a its.toArray∧xs.length≤sizeLine:=by
 rcases h with h | ⟨o,its,n,hk,hc,hd,hs,hz,r⟩
 ·obtain⟨z,its,n,r,e⟩:=h.ok I.hok
  exact⟨its,r,⟨_,n,e,rfl,rfl,rfl⟩,z⟩
 ·refine⟨its.toList,r,⟨o,n,I.kIn a o hk,hc,hd,by simpa using hs⟩,?_⟩
  have e:=r.length
  simp only[Array.length_toList] at e
  omega
theorem Inv.tuple (I:Inv X pins σ H s) (h:SqT X.K H a xs):∃ its:List Value,Vals xs its∧IsTup s.heap a its.toArray∧xs.length≤sizeLine:=by
 rcases h with h | ⟨o,its,n,hk,hc,hs,hz,r⟩
 ·obtain⟨z,its,r,p⟩:=h.ok I.hok
  exact⟨its,r,p.1,z⟩
 ·refine⟨its.toList,r,⟨o,I.kIn a o hk,hc,n,by simpa using hs⟩,?_⟩
  have e:=r.length
  simp only[Array.length_toList] at e
  omega
theorem Inv.list_inj (I:Inv X pins σ H s) (h:SqL X.K H a xs) (h':SqL X.K H a ys):xs=ys:=by
 obtain⟨its,r,⟨o,n,e,_,_,d⟩,_⟩:=I.list h
 obtain⟨its',r',⟨o',n',e',_,_,d'⟩,_⟩:=I.list h'
 rw[e] at e';cases e'
 rw[d] at d'
 injection d' with d1 _
 have:its=its':=by simpa using congrArg Array.toList d1
 subst this
 exact r.inj r'
theorem Inv.tuple_inj (I:Inv X pins σ H s) (h:SqT X.K H a xs) (h':SqT X.K H a ys):xs=ys:=by
 obtain⟨its,r,⟨o,e,_,n,d⟩,_⟩:=I.tuple h
 obtain⟨its',r',⟨o',e',_,n',d'⟩,_⟩:=I.tuple h'
 rw[e] at e';cases e'
 rw[d] at d'
 injection d' with d1 _
 have:its=its':=by simpa using congrArg Array.toList d1
 subst this
 exact r.inj r'
end
abbrev Cx.wish (X:Cx) (E:Value→Shared→Prop):Cx:={ X with xe:=E }
abbrev Cx.nox (X:Cx):Cx:=X.wish fun _ _=>False
theorem Cx.Ok.wish {X:Cx} (ok:X.Ok) (E:Value→Shared→Prop):(X.wish E).Ok :=
 ⟨ok.mod,ok.kind,ok.glob,ok.blt,ok.above,ok.inj,ok.has,ok.cab,ok.hd,ok.frames,ok.stk,ok.exf,ok.bs,ok.bsz,ok.noex,ok.exfs,ok.funs,ok.frf⟩
theorem Cx.Ok.unwish {X:Cx}{E:Value→Shared→Prop} (ok:(X.wish E).Ok):X.Ok :=
 ⟨ok.mod,ok.kind,ok.glob,ok.blt,ok.above,ok.inj,ok.has,ok.cab,ok.hd,ok.frames,ok.stk,ok.exf,ok.bs,ok.bsz,ok.noex,ok.exfs,ok.funs,ok.frf⟩
section
variable {X:Cx}{pins:List (Addr × Obj)}{σ:St}{H:Hp}{s:Shared}{E:Value→Shared→Prop}
theorem Inv.wish (I:Inv X pins σ H s) (E:Value→Shared→Prop):Inv (X.wish E) pins σ H s:=⟨I.ok.wish E,I.os,I.bare,I.base,I.loc,I.cell,I.free,I.freeC,I.pin,I.hok,I.len⟩
theorem Inv.unwish (I:Inv (X.wish E) pins σ H s):Inv X pins σ H s:=⟨I.ok.unwish,I.os,I.bare,I.base,I.loc,I.cell,I.free,I.freeC,I.pin,I.hok,I.len⟩
theorem SP.unwish {D:Ends}{f:Flow}{s':Shared} (h:SP (X.wish E) pins D f s'):SP X pins D f s':=by
 cases f with
 | next=>obtain⟨σ',H',I,q⟩:=h;exact⟨σ',H',I.unwish,q⟩
 | brk=>obtain⟨σ',H',I,q⟩:=h;exact⟨σ',H',I.unwish,q⟩
 | cont=>obtain⟨σ',H',I,q⟩:=h;exact⟨σ',H',I.unwish,q⟩
 | ret u=>obtain⟨v,σ',H',I,r,q⟩:=h;exact⟨v,σ',H',I.unwish,r,q⟩
theorem PE.nox {e:Expr}{t:TE} (h:PE X.nox e t):PE X e t:=fun pins s σ H Q I hw =>
 wpAny_mono (h pins s σ H Q (I.wish _) hw) (fun _ _ ⟨v,H',I',r,q⟩=>⟨v,H',I'.unwish,r,q⟩) fun _ _ z=>False.elim z
theorem PT.nox {e:Expr}{t:TT} (h:PT X.nox e t):PT X e t:=fun pins s σ H Q I hw =>
 wpAny_mono (h pins s σ H Q (I.wish _) hw) (fun _ _ ⟨H',I',q⟩=>⟨H',I'.unwish,q⟩) fun _ _ z=>False.elim z
theorem PSs.nox {st:List Stmt}{t:TS} (h:PSs X.nox st t):PSs X st t:=fun pins s σ H D I hw =>
 wpAny_mono (h pins s σ H D (I.wish _) hw) (fun _ _ q=>q.unwish) fun _ _ z=>False.elim z
end
section
variable {X:Cx}{st:Stmt}{rest:List Stmt}{t u:TS}{e:Expr}{te:TE}{pos:Pos}
def tNext:TS:=fun D σ H=>D.nx σ H
def tSeq (t u:TS):TS:=fun D σ H=>t { D with nx:=u D } σ H
theorem j0f:PSs X [] tNext:=fun _ _ σ H _ I h=>wpAny_execs_nil ⟨σ,H,I,h⟩
theorem j02 (h1:PS X st t) (h2:PSs X rest u):PSs X (st :: rest) (tSeq t u):=by
 intro pins s σ H D I h
 refine wpAny_execs_cons (thn (h1 pins s σ H { D with nx:=u D } I h) fun f s1 q=>?_)
 cases f with
 | next =>
  obtain⟨σ',H',I',q⟩:=q
  exact h2 pins s1 σ' H' D I' q
 | ret v=>exact q
 | brk=>exact q
 | cont=>exact q
theorem j04 (h1:PS X st t):PSs X [st] t:=by
 intro pins s σ H D I h
 refine wpAny_execs_cons (thn (h1 pins s σ H D I h) fun f s1 q=>?_)
 cases f with
 | next=>exact wpAny_execs_nil q
 | ret v=>exact q
 | brk=>exact q
 | cont=>exact q
theorem Inv.quiet {pins:List (Addr × Obj)}{σ:St}{H:Hp}{s:Shared} (I:Inv X pins σ H s):interactive X.env=false:=by simp[interactive,I.ok.kind]
def tDrop (te:TE):TS:=fun D σ H=>te σ H fun _ H1=>D.nx σ H1
theorem j1z (he:PE X e te) (hs:swapsWith e none pos.line X.env=pure false:=by rfl):PS X (.Expr e pos) (tDrop te):=by
 intro pins s σ H D I h
 exact wpAny_Expr_any (thn (he pins s σ H _ I h) fun v s1 ⟨x,H1,I1,r1,q1⟩=>⟨σ,H1,I1,q1⟩) I.quiet hs
def tRet (te:TE):TS:=fun D σ H=>te σ H D.rt
theorem j0b (he:PE X e te):PS X (.Return (some e) pos) (tRet te):=by
 intro pins s σ H D I h
 exact wpAny_Return_some (thn (he pins s σ H _ I h) fun v s1 ⟨x,H1,I1,r1,q1⟩=>⟨x,σ,H1,I1,r1,q1⟩)
def tIfS (c:TT) (t u:TS):TS:=fun D σ H=>c σ H fun b H1=>if b=true then t D σ H1 else u D σ H1
theorem j1u {c:Expr}{a b:List Stmt}{tc:TT} (hc:PT X c tc) (ha:PSs X a t) (hb:PSs X b u):PS X (.If c a b pos) (tIfS tc t u):=by
 intro pins s σ H D I h
 refine wpAny_If (thn (hc pins s σ H _ I h) fun d s1 ⟨H1,I1,q1⟩=>?_)
 cases d with
 | true=>exact ha pins s1 σ H1 D I1 q1
 | false=>exact hb pins s1 σ H1 D I1 q1
def tNever:TS:=fun _ _ _=>False
theorem j4f:PS X st tNever:=fun _ _ _ _ _ _ h=>h.elim
end
abbrev TG:=V→St→Hp→(St→Hp→Prop)→Prop
abbrev TGs:=List V→St→Hp→(St→Hp→Prop)→Prop
def PG (X:Cx) (target:Expr) (t:TG):Prop :=
 ∀ (pins:List (Addr × Obj)) (s:Shared) (σ:St) (H:Hp) (v:V) (u:Value) (Q:St→Hp→Prop),Inv X pins σ H s→RelV v u→t v σ H Q →
  wpAny (model X.prog X.w) X.A (assign target X.env u) (fun _ s'=>∃ σ' H',Inv X pins σ' H' s'∧Q σ' H') X.xe s
def PGs (X:Cx) (ts:List Expr) (t:TGs):Prop :=
 ∀ (pins:List (Addr × Obj)) (s:Shared) (σ:St) (H:Hp) (vs:List V) (us:List Value) (Q:St→Hp→Prop),Inv X pins σ H s→Vals vs us→t vs σ H Q →
  wpAny (model X.prog X.w) X.A (assignInOrder ((assignEach ts X.env).map (·.2)) us) (fun _ s'=>∃ σ' H',Inv X pins σ' H' s'∧Q σ' H') X.xe s
section
variable {X:Cx}{pos:Pos}
def jcf (i:Nat):TG:=fun v σ H Q=>Q (σ.set i (some v)) H
theorem j0d {i:Nat}{x:Str} (hN:X.N.Nodup) (hi:X.N[i]?=some x) (hx:Loc X.env.scope x) (hf:X.fn x=true∨X.env.scope.names.lookup x=some .local:=by first | exact .inl rfl | exact .inr rfl | assumption):PG X (.Name x pos) (jcf i):=by
 intro pins s σ H v u Q I r h
 exact wpAny_assign_Name (j6e I hN hi hx r (fun s' I'=>⟨_,H,I',h⟩) hf)
def gNil:TGs:=fun vs σ H Q=>vs=[]∧Q σ H
def gCons (t:TG) (u:TGs):TGs:=fun vs σ H Q=>∃ v r,vs=v :: r∧t v σ H fun σ' H'=>u r σ' H' Q
theorem j5a:PGs X [] gNil:=by
 intro pins s σ H vs us Q I r h
 obtain⟨e,h⟩:=h
 subst e
 cases r
 exact assignInOrder_nil ⟨σ,H,I,h⟩
theorem j0w {e:Expr}{es:List Expr}{t:TG}{u:TGs} (h1:PG X e t) (h2:PGs X es u)
  (hs:(assignEach (e :: es) X.env).map (·.2)=assign e X.env :: (assignEach es X.env).map (·.2):=by rfl):PGs X (e :: es) (gCons t u):=by
 intro pins s σ H vs us Q I r h
 obtain⟨v,vr,e1,h⟩:=h
 subst e1
 cases r with
 | cons r rr =>
  rw[hs]
  refine assignInOrder_cons (thn (h1 pins s σ H _ _ _ I r h) fun _ s1 ⟨σ1,H1,I1,q1⟩=>?_)
  exact h2 pins s1 σ1 H1 _ _ Q I1 rr q1
def gTup (K:PySem.W.Frag) (n:Nat) (t:TGs):TG:=fun v σ H Q=>∃ a xs,v=.ref a∧SqT K H a xs∧xs.length=n∧t xs σ H Q
theorem j9j {es:List Expr}{k:Nat}{t:TGs}{n:Nat} (hc:X.calm=true) (h:PGs X es t)
  (hn:(assignEach es X.env).length=n:=by rfl) (hst:(assignEach es X.env).findIdx? (·.1)=none:=by rfl):PG X (.Tuple es k pos) (gTup X.K n t):=by
 intro pins s σ H v u Q I r hw
 obtain⟨a,xs,e1,hq,hl,hw⟩:=hw
 subst e1
 cases r
 obtain⟨its,rv,ht,hz⟩:=I.tuple hq
 refine assign_Tuple_tuple (I.ok.hd hc) ht (by simp[hn,← hl,rv.length]) hst fun h' hx=>?_
 have I1:Inv X pins σ H { s with heap:=h' }:=I.kept (t':=s.toks) fun b o e=>hx b o (Nat.ne_of_lt (Heap.lt_size e)) e
 exact h pins _ σ H xs _ Q I1 (by simpa using rv) hw
def tAsg (te:TE) (g:TG):TS:=fun D σ H=>te σ H fun x H1=>g x σ H1 D.nx
theorem jhr {tg e:Expr}{te:TE}{g:TG} (he:PE X e te) (hg:PG X tg g) (hs:swapsWithSole [tg] e pos.line X.env=pure false:=by rfl) (hw:swappedStores [tg] e X.env=pure none:=by rfl)
  (h1:(assignEach [tg] X.env).map (·.2)=[assign tg X.env]:=by rfl):PS X (.Assign [tg] e pos) (tAsg te g):=by
 intro pins s σ H D I h
 refine wpAny_Assign_stores (thn (he pins s σ H _ I h) fun v s1 ⟨x,H1,I1,r1,q1⟩=>?_) hs hw
 rw[h1]
 exact thn (hg pins s1 σ H1 x v _ I1 r1 q1) fun _ s2 q=>q
theorem j0q {i:Nat}{x:Str}{e:Expr}{te:TE}{pos':Pos} (hN:X.N.Nodup) (hi:X.N[i]?=some x) (hx:Loc X.env.scope x) (he:PE X e te) (hs:swapsWith e (some (.Name x pos')) pos.line X.env=pure false:=by rfl) (hf:X.fn x=true∨X.env.scope.names.lookup x=some .local:=by first | exact .inl rfl | exact .inr rfl | assumption) :
  PS X (.Assign [.Name x pos'] e pos) (tAsg te (jcf i)):=by
 intro pins s σ H D I h
 refine wpAny_Assign_Name (thn (he pins s σ H _ I h) fun v s1 ⟨y,H1,I1,r1,q1⟩=>?_) hs
 exact j6e I1 hN hi hx r1 (fun s2 I2=>⟨_,H1,I2,q1⟩) hf
end
structure It where
 go:Nat→Hp→Prop
 yld:Nat→Hp→V→Hp→Prop
 stop:Nat→Hp→Prop
def FpOk (X:Cx) (pins:List (Addr × Obj)) (H:Hp) (b:Addr):Prop :=
 H b=none∧b≠X.env.locals∧b∉X.fs∧(b∈X.ex∨X.s₀.heap.objs.size≤b)∧(∀ x c,X.env.cells.lookup x=some c→c≠b)∧∀ p∈X.pn++pins,p.1≠b
theorem Inv.fpOk {X:Cx}{pins:List (Addr × Obj)}{σ:St}{H H':Hp}{s:Shared}{b:Addr} (I:Inv X pins σ H s) (hb:s.heap.objs.size≤b) (hn:H' b=none):FpOk X pins H' b:=by
 refine⟨hn,Nat.ne_of_gt (Nat.lt_of_lt_of_le I.lt hb),I.nofs hb,.inr (Nat.le_trans I.sz hb),fun x c e z=>?_,fun p hp z=>?_⟩
 ·obtain⟨v,q⟩:=I.cell x c e
  exact absurd (Nat.lt_of_lt_of_le q.lt (by rw[z];exact hb)) (Nat.lt_irrefl _)
 ·exact absurd (Nat.lt_of_lt_of_le (Heap.lt_size (I.pin p hp).1) (by rw[z];exact hb)) (Nat.lt_irrefl _)
structure Turn (P:Program) (w:World) (K:PySem.W.Frag) (tg:Expr) (J:It) (fp:List Addr) (it:Addr) (tn:Nat→Heap→Prop):Prop where
 mem:it∈fp
 obj:∀ i h,tn i h→∀ b∈fp,∃ o,h.get? b=some o∧∀ v,o.data≠.cell v
 keep:∀ i h h',tn i h→(∀ b∈fp,∀ o,h.get? b=some o→h'.get? b=some o)→tn i h'
 item:∀ (X:Cx),X.prog=P→X.w=w→X.K=K→X.calm=true→∀ (i:Nat) (pins:List (Addr × Obj)) (s:Shared) (σ:St) (H:Hp) (E:Value→Shared→Prop),Inv X pins σ H s→(∀ b∈fp,FpOk X pins H b)→tn i s.heap→J.go i H →
  wpAny (model P w) X.A (pyNext (.ref it)) (fun r s1=>∃ u,r=some u ∧
   wpAny (model P w) X.A (letOwnedTupleGo tg (.ref it) u) (fun _ s2=>∃ x H',Inv X pins σ H' s2∧RelV x u∧J.yld i H x H'∧tn (i+1) s2.heap∧∀ b∈fp,H' b=none) E s1) E s
 done:∀ (X:Cx),X.prog=P→X.w=w→X.K=K→X.calm=true→∀ (i:Nat) (pins:List (Addr × Obj)) (s:Shared) (σ:St) (H:Hp) (E:Value→Shared→Prop),Inv X pins σ H s→(∀ b∈fp,FpOk X pins H b)→tn i s.heap→J.stop i H →
  wpAny (model P w) X.A (pyNext (.ref it)) (fun r s1=>r=none∧Inv X pins σ H s1) E s
 self:∀ (A:Around) (i:Nat) (s:Shared) (Q:Value→Shared→Prop) (E:Value→Shared→Prop),tn i s.heap→Q (.ref it) s→wpAny (model P w) A (pyIter (.ref it)) Q E s
abbrev TI:=St→Hp→(It→Hp→Prop)→Prop
def PIE (X:Cx) (pins:List (Addr × Obj)) (σ:St) (tg:Expr) (R:It→Hp→Prop) (itv:Value) (s2:Shared):Prop :=
 ∃ (it:Addr) (fp:List Addr) (tn:Nat→Heap→Prop) (J:It) (H':Hp),itv=.ref it∧Inv X pins σ H' s2∧Turn X.prog X.w X.K tg J fp it tn∧tn 0 s2.heap∧(∀ b∈fp,FpOk X pins H' b)∧R J H'
def PI (X:Cx) (tg iter:Expr) (wi:TI):Prop :=
 ∀ (pins:List (Addr × Obj)) (s:Shared) (σ:St) (H:Hp) (R:It→Hp→Prop),Inv X pins σ H s→wi σ H R →
  wpAny (model X.prog X.w) X.A (eval iter X.env) (fun v s1=>wpAny (model X.prog X.w) X.A (pyIter v) (PIE X pins σ tg R) X.xe s1) X.xe s
theorem jf6 {M:Model}{A:Around}{E:Value→Shared→Prop}{s:Shared}{tg:Expr}{it:Addr}{u:Value}{o:Obj}{n:String}{vs:Array Value}{Q:Unit→Shared→Prop} (ho:s.heap.get? it=some o) (hc:o.cls=.type n) (hd:o.data=.fields vs)
  (hn:["enumerate","zip","dict_itemiterator","dict_reverseitemiterator","odict_iterator","itertools.zip_longest","itertools.pairwise"].contains n=false) (hQ:Q () s):wpAny M A (letOwnedTupleGo tg (.ref it) u) Q E s:=by
 unfold letOwnedTupleGo
 cases tg <;> first
  | exact wpAny_pure hQ
  | (cases u <;> first
    | exact wpAny_pure hQ
    | (refine wpAny_bind (wpAny_load ho ?_)
       rw[hc,hd]
       show wpAny M A (if (["enumerate","zip","dict_itemiterator","dict_reverseitemiterator","odict_iterator","itertools.zip_longest","itertools.pairwise"].contains n && vs[0]? == some (rawInt _))=true then _ else _) Q E s
       rw[if_neg (by intro h;rw[hn,Bool.false_and] at h;cases h)]
       exact wpAny_pure hQ))
def Itl (K:PySem.W.Frag) (a:Addr):It :=
 ⟨fun i H=>∃ xs x,SqL K H a xs∧xs[i]?=some x,fun i H x H'=>H'=H∧∀ xs,SqL K H a xs→xs[i]?=some x,fun i H=>∃ xs,SqL K H a xs∧xs.length≤i⟩
def Itt (K:PySem.W.Frag) (a:Addr):It :=
 ⟨fun i H=>∃ xs x,SqT K H a xs∧xs[i]?=some x,fun i H x H'=>H'=H∧∀ xs,SqT K H a xs→xs[i]?=some x,fun i H=>∃ xs,SqT K H a xs∧xs.length≤i⟩
def Itr (lo:Int) (n:Nat):It:=⟨fun i _=>i < n,fun i H x H'=>H'=H∧x=.int (lo+i),fun i _=>n≤i⟩
theorem jcg {P:Program}{w:World}{K:PySem.W.Frag}{tg:Expr} (a it:Addr):Turn P w K tg (Itl K a) [it] it (fun i h=>h.IsListIter it a i) where
 mem:=by simp
 obj:=fun i h st b hb=>by
  have e:b=it:=by simpa using hb
  subst e
  obtain⟨o,e,c,d⟩:=st
  exact⟨o,e,fun v z=>by rw[d] at z;cases z⟩
 keep:=fun i h h' st k=>st.at fun o e=>k it (by simp) o e
 item:=by
  intro X hP hw hK hc i pins s σ H E I hf st hg
  subst hP hw hK
  obtain⟨xs,x,hq,hx⟩:=hg
  obtain⟨its,rv,p,hz⟩:=I.list hq
  obtain⟨u,hu,ru⟩:=rv.get hx
  obtain⟨f0,f1,f2,f3,f4,f5⟩:=hf it (by simp)
  refine wpAny_pyNext_list_item st p.isList (x:=u) (by simpa using hu) fun h' st' sb=>?_
  have I1:Inv X pins σ H { s with heap:=h' }:=I.turned (t':=s.toks) (fun b o hb e=>(sb.2 b hb).trans e) f0 f1 f3 f4 f5
  obtain⟨o,e,c,d⟩:=id st'
  exact⟨u,rfl,jf6 (s:={ s with heap:=h' }) e c d (by decide) ⟨x,H,I1,ru,⟨rfl,fun ys hy=>by rw[I.list_inj hy hq];exact hx⟩,st',fun b hb=>(hf b hb).1⟩⟩
 done:=by
  intro X hP hw hK hc i pins s σ H E I hf st hg
  subst hP hw hK
  obtain⟨xs,hq,hx⟩:=hg
  obtain⟨its,rv,p,hz⟩:=I.list hq
  obtain⟨f0,f1,f2,f3,f4,f5⟩:=hf it (by simp)
  have hl:=rv.length
  exact wpAny_pyNext_list_end (I.ok.hd hc) st p.isList (by simp;omega) fun h' eb=>⟨rfl,I.turned (t':=s.toks) (fun b o hb e=>eb b o hb e) f0 f1 f3 f4 f5⟩
 self:=fun _ _ _ _ _ st h=>wpAny_pyIter_listiter st h
theorem j9k {P:Program}{w:World}{K:PySem.W.Frag}{tg:Expr} (a it:Addr):Turn P w K tg (Itt K a) [it] it (fun i h=>h.IsTupleIter it a i) where
 mem:=by simp
 obj:=fun i h st b hb=>by
  have e:b=it:=by simpa using hb
  subst e
  obtain⟨o,e,c,d⟩:=st
  exact⟨o,e,fun v z=>by rw[d] at z;cases z⟩
 keep:=fun i h h' st k=>st.at fun o e=>k it (by simp) o e
 item:=by
  intro X hP hw hK hc i pins s σ H E I hf st hg
  subst hP hw hK
  obtain⟨xs,x,hq,hx⟩:=hg
  obtain⟨its,rv,p,hz⟩:=I.tuple hq
  obtain⟨u,hu,ru⟩:=rv.get hx
  obtain⟨f0,f1,f2,f3,f4,f5⟩:=hf it (by simp)
  refine wpAny_pyNext_tuple_item st (show s.heap.IsTuple a its.toArray from p) (x:=u) (by simpa using hu) fun h' st' sb=>?_
  have I1:Inv X pins σ H { s with heap:=h' }:=I.turned (t':=s.toks) (fun b o hb e=>(sb.2 b hb).trans e) f0 f1 f3 f4 f5
  obtain⟨o,e,c,d⟩:=id st'
  exact⟨u,rfl,jf6 (s:={ s with heap:=h' }) e c d (by decide) ⟨x,H,I1,ru,⟨rfl,fun ys hy=>by rw[I.tuple_inj hy hq];exact hx⟩,st',fun b hb=>(hf b hb).1⟩⟩
 done:=by
  intro X hP hw hK hc i pins s σ H E I hf st hg
  subst hP hw hK
  obtain⟨xs,hq,hx⟩:=hg
  obtain⟨its,rv,p,hz⟩:=I.tuple hq
  obtain⟨f0,f1,f2,f3,f4,f5⟩:=hf it (by simp)
  have hl:=rv.length
  exact wpAny_pyNext_tuple_end (I.ok.hd hc) st (show s.heap.IsTuple a its.toArray from p) (by simp;omega) fun h' eb=>⟨rfl,I.turned (t':=s.toks) (fun b o hb e=>eb b o hb e) f0 f1 f3 f4 f5⟩
 self:=fun _ _ _ _ _ st h=>wpAny_pyIter_tupleiter st h
theorem j9l {P:Program}{w:World}{K:PySem.W.Frag}{tg:Expr} (it:Addr) (lo:Int) (n:Nat):Turn P w K tg (Itr lo n) [it] it (fun i h=>IsRangeIter h it (lo+(i:Nat) * 1) ((n:Int)-(i:Nat)) 1) where
 mem:=by simp
 obj:=fun i h st b hb=>by
  have e:b=it:=by simpa using hb
  subst e
  exact⟨_,st,fun v z=>by
   have z':Data.fields _=Data.cell v:=z
   cases z'⟩
 keep:=fun i h h' st k=>k it (by simp) _ st
 item:=by
  intro X hP hw hK hc i pins s σ H E I hf st hg
  subst hP hw hK
  obtain⟨f0,f1,f2,f3,f4,f5⟩:=hf it (by simp)
  have W:=Walks.range (prog:=X.prog) (w:=X.w) (I.ok.hd hc) it lo 1 n
  refine W.item i s _ _ hg st fun v h' tk hv st' kk=>?_
  obtain⟨t,rfl⟩:=hv
  have I1:Inv X pins σ H { s with heap:=h',toks:=tk }:=I.turned (fun b o hb e=>kk b o (by simpa using hb) e) f0 f1 f3 f4 f5
  refine⟨_,rfl,jf6 (s:={ s with heap:=h',toks:=tk }) (n:="range_iterator") st' rfl rfl (by decide) ⟨.int (lo+i),H,I1,⟨t,?_⟩,⟨rfl,rfl⟩,st',fun b hb=>(hf b hb).1⟩⟩
  rw[Int.mul_one]
 done:=by
  intro X hP hw hK hc i pins s σ H E I hf st hg
  subst hP hw hK
  obtain⟨f0,f1,f2,f3,f4,f5⟩:=hf it (by simp)
  exact wpAny_pyNext_range_end (I.ok.hd hc) st (by have:n≤i:=hg;omega) fun h' eb=>⟨rfl,I.turned (t':=s.toks) (fun b o hb e=>eb b o hb e) f0 f1 f3 f4 f5⟩
 self:=fun _ _ _ _ _ st h=>wpAny_pyIter_rangeiter st h
section
variable {X:Cx}{tg:Expr}
def iList (K:PySem.W.Frag) (tl:TE):TI:=fun σ H R=>tl σ H fun x H1=>∃ a,x=.ref a∧(∃ xs,SqL K H1 a xs)∧R (Itl K a) H1
def iTup (K:PySem.W.Frag) (tl:TE):TI:=fun σ H R=>tl σ H fun x H1=>∃ a,x=.ref a∧(∃ xs,SqT K H1 a xs)∧R (Itt K a) H1
theorem j1p {l:Expr}{tl:TE} (hl:PE X l tl):PI X tg l (iList X.K tl):=by
 intro pins s σ H R I h
 refine thn (hl pins s σ H _ I h) fun v s1 ⟨x,H1,I1,r1,q1⟩=>?_
 obtain⟨a,e,⟨xs,hq⟩,q⟩:=q1
 subst e
 cases r1
 obtain⟨its,rv,p,hz⟩:=I1.list hq
 refine wpAny_pyIter_list p.isList ?_
 refine⟨s1.heap.objs.size,[s1.heap.objs.size],_,_,H1,rfl,I1.kept (t':=s1.toks) fun b o e=>Heap.get?_push_of_some _ e,jcg a _,⟨_,Heap.get?_push_size _ rfl,rfl,rfl⟩,fun b hb=>?_,q⟩
 have e:b=s1.heap.objs.size:=by simpa using hb
 subst e
 exact I1.fpOk (Nat.le_refl _) (I1.hok.fresh (Nat.le_refl _))
theorem j6h {l:Expr}{tl:TE} (hl:PE X l tl):PI X tg l (iTup X.K tl):=by
 intro pins s σ H R I h
 refine thn (hl pins s σ H _ I h) fun v s1 ⟨x,H1,I1,r1,q1⟩=>?_
 obtain⟨a,e,⟨xs,hq⟩,q⟩:=q1
 subst e
 cases r1
 obtain⟨its,rv,p,hz⟩:=I1.tuple hq
 refine wpAny_pyIter_tuple (show s1.heap.IsTuple a its.toArray from p) ?_
 refine⟨s1.heap.objs.size,[s1.heap.objs.size],_,_,H1,rfl,I1.kept (t':=s1.toks) fun b o e=>Heap.get?_push_of_some _ e,j9k a _,⟨_,Heap.get?_push_size _ rfl,rfl,rfl⟩,fun b hb=>?_,q⟩
 have e:b=s1.heap.objs.size:=by simpa using hb
 subst e
 exact I1.fpOk (Nat.le_refl _) (I1.hok.fresh (Nat.le_refl _))
theorem jf7 {pins:List (Addr × Obj)}{σ:St}{H:Hp}{s:Shared}{R:It→Hp→Prop}{E:Value→Shared→Prop}{lo hi:Int}{t u v:Tok}{tk:Nat} (I:Inv X pins σ H s) (h1:-(2 ^ 62)≤lo) (h2:lo < 2 ^ 62) (h3:-(2 ^ 62)≤hi) (h4:hi < 2 ^ 62)
  (q:R (Itr lo (hi-lo).toNat) H):wpAny (model X.prog X.w) X.A (pyIter (.ref s.heap.objs.size)) (PIE X pins σ tg R) E { s with heap:=s.heap.push { cls:=.type "range",data:=.fields #[.int lo t,.int hi u,.int 1 v] },toks:=tk }:=by
 refine wpAny_pyIter_range (IsRange.new ..) (small_one h1 h2 h3 h4) ?_
 have I1:Inv X pins σ H { s with heap:=s.heap.push { cls:=.type "range",data:=.fields #[.int lo t,.int hi u,.int 1 v] },toks:=tk }:=I.kept fun b o e=>Heap.get?_push_of_some _ e
 refine⟨(s.heap.push { cls:=.type "range",data:=.fields #[.int lo t,.int hi u,.int 1 v] }).objs.size,[(s.heap.push { cls:=.type "range",data:=.fields #[.int lo t,.int hi u,.int 1 v] }).objs.size],_,_,H,rfl,
  I1.kept (t':=tk) fun b o e=>Heap.get?_push_of_some _ e,j9l _ lo (hi-lo).toNat,?_,fun b hb=>?_,q⟩
 ·have e1:lo+((0:Nat):Int) * 1=lo:=by simp
  have e2:(((hi-lo).toNat:Nat):Int)-((0:Nat):Int)=Builtin.Range.rangeSize lo hi 1:=by rw[rangeSize_one];split <;> omega
  show IsRangeIter _ _ (lo+((0:Nat):Int) * 1) ((((hi-lo).toNat:Nat):Int)-((0:Nat):Int)) 1
  rw[e1,e2]
  exact Heap.get?_push_size _ rfl
 ·have e:b=(s.heap.push { cls:=.type "range",data:=.fields #[.int lo t,.int hi u,.int 1 v] }).objs.size:=by simpa using hb
  subst e
  exact I1.fpOk (Nat.le_refl _) (I1.hok.fresh (Nat.le_refl _))
def iRng1 (ta:TA):TI:=fun σ H R=>ta σ H fun vs H1=>∃ j:Int,vs=[.int j]∧-(2 ^ 62)≤j∧j < 2 ^ 62∧R (Itr 0 j.toNat) H1
theorem jch {a:Expr}{ta:TA}{p pos:Pos} (hg:Gl X "range") (hm:X.mg "range"=none) (ha:PA X [a] ta) (hs:starEach [a] X.env=[(false,eval a X.env)]:=by rfl):PI X tg (.Call (.Name "range" p) [a] [] pos) (iRng1 ta):=by
 intro pins s σ H R I h
 refine Call_ (j1y I hg hm boot_range (PyProof.Rows.callWith_type1 (thn (ha pos pins s σ H _ I h) fun us s1 ⟨vs,H1,I1,r1,q1⟩=>?_) hs rfl))
 obtain⟨j,e,q1,q2,q⟩:=q1
 subst e
 cases r1 with
 | cons r rr =>
  cases rr
  obtain⟨t,rfl⟩:=r
  exact call_range_1 (jf7 I1 (by omega) (by omega) q1 q2 (by simpa using q))
def tFor (wi:TI) (g:TG) (tb:TS):TS:=fun D σ H=>wi σ H fun J H1=>∃ W:Nat→Nat→St→Hp→Prop,(∃ m,W 0 m σ H1)∧∀ i m σ H,W i m σ H →
 (J.stop i H∧D.nx σ H)∨(J.go i H∧∃ N:St→Hp→Prop,(∀ σ' H',N σ' H'→∃ m',m' < m∧W (i+1) m' σ' H')∧∀ x H',J.yld i H x H'→g x σ H' fun σ2 H2=>tb { D with nx:=N,ct:=N,bk:=D.nx } σ2 H2)
def j9m (fp:List Addr) (h:Heap):List (Addr × Obj):=fp.filterMap fun b=>(h.get? b).map fun o=>(b,o)
theorem j20 {fp:List Addr}{h:Heap}{b:Addr}{o:Obj} (hb:b∈fp) (e:h.get? b=some o):(b,o)∈j9m fp h:=List.mem_filterMap.mpr ⟨b,hb,by rw[e];rfl⟩
theorem jci {fp:List Addr}{h:Heap}{p:Addr × Obj} (hp:p∈j9m fp h):p.1∈fp∧h.get? p.1=some p.2:=by
 obtain⟨b,hb,e⟩:=List.mem_filterMap.mp hp
 cases q:h.get? b with
 | none=>rw[q] at e;cases e
 | some o =>
  rw[q] at e
  have e':(b,o)=p:=Option.some.inj e
  subst e'
  exact⟨hb,q⟩
theorem Inv.pinned {pins:List (Addr × Obj)}{σ:St}{H:Hp}{s:Shared}{fp:List Addr} (I:Inv X pins σ H s) (hf:∀ b∈fp,FpOk X pins H b) (ho:∀ b∈fp,∃ o,s.heap.get? b=some o∧∀ v,o.data≠.cell v):Inv X (pins++j9m fp s.heap) σ H s :=
 I.pins_of fun p hp=>(List.mem_append.mp hp).elim (fun z=>I.pin p (List.mem_append_right _ z)) fun z=>by
  obtain⟨hb,e⟩:=jci z
  obtain⟨f0,f1,f2,_⟩:=hf p.1 hb
  obtain⟨o,e',d⟩:=ho p.1 hb
  rw[e] at e';cases e'
  exact⟨e,f0,f1,f2,d⟩
theorem Inv.unpinned {pins pl:List (Addr × Obj)}{σ:St}{H:Hp}{s:Shared} (I:Inv X (pins++pl) σ H s):Inv X pins σ H s:=I.pins_of fun p hp=>I.pin p (List.mem_append_right _ (List.mem_append_left _ hp))
theorem j2y {iter:Expr}{body:List Stmt}{wi:TI}{g:TG}{tb:TS}{pos:Pos} (hp:PassesOwn (model X.prog X.w) X.A X.env X.xe) (hc:X.calm=true) (hi:PI X tg iter wi) (hg:PG X tg g) (hb:PSs X body tb)
  (hs:∀ x,foldedSetIterable iter X.env x=pure x:=by intro _;rfl):PS X (.For tg iter body [] pos) (tFor wi g tb):=by
 intro pins s σ H D I h
 refine wpAny_For (thn (hi pins s σ H _ I h) fun v s1 h1=>thn h1 fun itv s2 h2=>?_) hs
 obtain⟨it,fp,tn,J,H2,e,I2,T,st2,f2,W,⟨m0,w0⟩,turn⟩:=h2
 subst e
 have stat:∀ {H':Hp},(∀ b∈fp,H' b=none)→∀ b∈fp,FpOk X pins H' b:=fun hn b hb=>⟨hn b hb,(f2 b hb).2⟩
 refine codeAny_forLoop_any (fun n s'=>∃ i σ' H',Inv X pins σ' H' s'∧tn i s'.heap∧(∀ b∈fp,H' b=none)∧W i n σ' H') ?_ m0 ⟨0,σ,H2,I2,st2,fun b hb=>(f2 b hb).1,w0⟩
 rintro n s3 ⟨i,σ3,H3,I3,st3,fr3,w3⟩
 rcases turn i n σ3 H3 w3 with⟨stop,qn⟩ | ⟨go,N,hN,step⟩
 ·refine wpAny_passesOwn hp (thn (T.done X rfl rfl rfl hc i pins s3 σ3 H3 X.xe I3 (stat fr3) st3 stop) fun r s4 ⟨hr,I4⟩=>?_)
  subst hr
  exact wpAny_execs_nil ⟨σ3,H3,I4,qn⟩
 ·refine wpAny_passesOwn hp (thn (T.item X rfl rfl rfl hc i pins s3 σ3 H3 X.xe I3 (stat fr3) st3 go) fun r s4 ⟨u,hr,h4⟩=>?_)
  subst hr
  refine wpAny_passesOwn hp (thn h4 fun _ s5 ⟨x,H5,I5,r5,y5,st5,fr5⟩=>?_)
  have I5':=I5.pinned (stat fr5) (T.obj _ _ st5)
  refine wpAny_passesOwn hp (thn (hg _ s5 σ3 H5 x u _ I5' r5 (step x H5 y5)) fun _ s6 ⟨σ6,H6,I6,q6⟩=>?_)
  refine wpAny_passesOwn hp (thn (hb _ s6 σ6 H6 _ I6 q6) fun f s7 q7=>?_)
  have again:∀ {σ7:St}{H7:Hp},Inv X (pins++j9m fp s5.heap) σ7 H7 s7→N σ7 H7→∃ m,m < n∧∃ i σ' H',Inv X pins σ' H' s7∧tn i s7.heap∧(∀ b∈fp,H' b=none)∧W i m σ' H':=fun {σ7 H7} I7 n7=>by
   obtain⟨m',hm,w7⟩:=hN σ7 H7 n7
   refine⟨m',hm,i+1,σ7,H7,I7.unpinned,T.keep _ _ _ st5 fun b hb o e=>(I7.pin (b,o) (List.mem_append_right _ (List.mem_append_right _ (j20 hb e)))).1,fun b hb=>?_,w7⟩
   obtain⟨o,e,d⟩:=T.obj _ _ st5 b hb
   exact (I7.pin (b,o) (List.mem_append_right _ (List.mem_append_right _ (j20 hb e)))).2.1
  cases f with
  | next=>obtain⟨σ7,H7,I7,n7⟩:=q7;exact again I7 n7
  | cont=>obtain⟨σ7,H7,I7,n7⟩:=q7;exact again I7 n7
  | brk=>obtain⟨σ7,H7,I7,q7⟩:=q7;exact⟨σ7,H7,I7.unpinned,q7⟩
  | ret v=>obtain⟨x7,σ7,H7,I7,r7,q7⟩:=q7;exact⟨x7,σ7,H7,I7.unpinned,r7,q7⟩
end
theorem j2z {K:PySem.W.Frag}{a:Addr}{xs:List V}{g:TG}{tb:TS}{D:Ends}{σ:St}{H:Hp} (Pv:Nat→St→Hp→Prop) (h0:Pv 0 σ H) (hl:∀ i σ H,i≤xs.length→Pv i σ H→SqL K H a xs)
  (hs:∀ i x σ H,xs[i]?=some x→Pv i σ H→g x σ H fun σ2 H2=>tb { D with nx:=Pv (i+1),ct:=Pv (i+1),bk:=D.nx } σ2 H2) (hd:∀ σ H,Pv xs.length σ H→D.nx σ H) :
  ∃ W:Nat→Nat→St→Hp→Prop,(∃ m,W 0 m σ H)∧∀ i m σ H,W i m σ H →
   ((Itl K a).stop i H∧D.nx σ H)∨((Itl K a).go i H∧∃ N:St→Hp→Prop,(∀ σ' H',N σ' H'→∃ m',m' < m∧W (i+1) m' σ' H')∧∀ x H',(Itl K a).yld i H x H'→g x σ H' fun σ2 H2=>tb { D with nx:=N,ct:=N,bk:=D.nx } σ2 H2):=by
 refine⟨fun i m σ H=>m=xs.length-i∧i≤xs.length∧Pv i σ H,⟨xs.length,by simp,Nat.zero_le _,h0⟩,?_⟩
 rintro i m σ H ⟨rfl,hi,p⟩
 have q:=hl i σ H hi p
 by_cases hlt:i < xs.length
 ·refine .inr ⟨⟨xs,xs[i],q,by simp[hlt]⟩,Pv (i+1),fun σ' H' p'=>⟨xs.length-(i+1),by omega,rfl,hlt,p'⟩,fun x H' y=>?_⟩
  obtain⟨e,y⟩:=y
  subst e
  exact hs i x σ _ (y xs q) p
 ·have e:i=xs.length:=by omega
  subst e
  exact .inl ⟨⟨xs,q,Nat.le_refl _⟩,hd σ H p⟩
theorem jcj {lo:Int}{n:Nat}{g:TG}{tb:TS}{D:Ends}{σ:St}{H:Hp} (Pv:Nat→St→Hp→Prop) (h0:Pv 0 σ H)
  (hs:∀ i σ H,i < n→Pv i σ H→g (.int (lo+i)) σ H fun σ2 H2=>tb { D with nx:=Pv (i+1),ct:=Pv (i+1),bk:=D.nx } σ2 H2) (hd:∀ σ H,Pv n σ H→D.nx σ H) :
  ∃ W:Nat→Nat→St→Hp→Prop,(∃ m,W 0 m σ H)∧∀ i m σ H,W i m σ H →
   ((Itr lo n).stop i H∧D.nx σ H)∨((Itr lo n).go i H∧∃ N:St→Hp→Prop,(∀ σ' H',N σ' H'→∃ m',m' < m∧W (i+1) m' σ' H')∧∀ x H',(Itr lo n).yld i H x H'→g x σ H' fun σ2 H2=>tb { D with nx:=N,ct:=N,bk:=D.nx } σ2 H2):=by
 refine⟨fun i m σ H=>m=n-i∧i≤n∧Pv i σ H,⟨n,by simp,Nat.zero_le _,h0⟩,?_⟩
 rintro i m σ H ⟨rfl,hi,p⟩
 by_cases hlt:i < n
 ·refine .inr ⟨hlt,Pv (i+1),fun σ' H' p'=>⟨n-(i+1),by omega,rfl,hlt,p'⟩,fun x H' y=>?_⟩
  obtain⟨e,y⟩:=y
  subst e y
  exact hs i σ _ hlt p
 ·have e:i=n:=by omega
  subst e
  exact .inl ⟨Nat.le_refl _,hd σ H p⟩
abbrev R2:=V→V→Hp→VK→Prop
def OpR (X:Cx) (f:Value→Value→Sem Value) (r:R2):Prop :=
 ∀ (pins:List (Addr × Obj)) (s:Shared) (σ:St) (H:Hp) (x y:V) (v u:Value) (Q:VK),Inv X pins σ H s→RelV x v→RelV y u→r x y H Q →
  wpAny (model X.prog X.w) X.A (f v u) (EP X pins σ Q) X.xe s
def UnR (X:Cx) (f:Value→Sem Value) (r:V→Hp→VK→Prop):Prop :=
 ∀ (pins:List (Addr × Obj)) (s:Shared) (σ:St) (H:Hp) (x:V) (v:Value) (Q:VK),Inv X pins σ H s→RelV x v→r x H Q →
  wpAny (model X.prog X.w) X.A (f v) (EP X pins σ Q) X.xe s
def CallR (X:Cx) (f:Value) (r:List V→Hp→VK→Prop):Prop :=
 ∀ (pins:List (Addr × Obj)) (s:Shared) (σ:St) (H:Hp) (xs:List V) (us:List Value) (Q:VK),Inv X pins σ H s→Vals xs us→r xs H Q →
  wpAny (model X.prog X.w) X.A (call f us) (EP X pins σ Q) X.xe s
def TruR (X:Cx) (r:V→Hp→(Bool→Hp→Prop)→Prop):Prop :=
 ∀ (pins:List (Addr × Obj)) (s:Shared) (σ:St) (H:Hp) (x:V) (v:Value) (Q:Bool→Hp→Prop),Inv X pins σ H s→RelV x v→r x H Q →
  wpAny (model X.prog X.w) X.A (truthy v) (TP X pins σ Q) X.xe s
def tOp (r:R2) (ta tb:TE):TE:=fun σ H Q=>ta σ H fun x H1=>tb σ H1 fun y H2=>r x y H2 Q
def tUn (r:V→Hp→VK→Prop) (ta:TE):TE:=fun σ H Q=>ta σ H fun x H1=>r x H1 Q
def rI (C:Int→Int→Prop) (g:Int→Int→V):R2:=fun x y H Q=>∃ i j,x=.int i∧y=.int j∧C i j∧Q (g i j) H
def rI0 (g:Int→Int→V):R2:=fun x y H Q=>∃ i j,x=.int i∧y=.int j∧Q (g i j) H
def rU (g:Int→V):V→Hp→VK→Prop:=fun x H Q=>∃ i,x=.int i∧Q (g i) H
section
variable {X:Cx}{a b c:Expr}{ta tb tc:TE}{pos:Pos}
theorem binT (ha:PE X a ta) (hb:PE X b tb) {pins:List (Addr × Obj)}{s:Shared}{σ:St}{H:Hp}{R:V→V→Hp→Prop} (I:Inv X pins σ H s)
  (h:ta σ H fun x H1=>tb σ H1 fun y H2=>R x y H2) {Q:Value→Shared→Prop}{f:Value→Value→Sem Value}
  (hf:∀ v u s2 x y H2,Inv X pins σ H2 s2→RelV x v→RelV y u→R x y H2→wpAny (model X.prog X.w) X.A (f v u) Q X.xe s2) :
  wpAny (model X.prog X.w) X.A (eval a X.env) (fun v s₁=>wpAny (model X.prog X.w) X.A (eval b X.env) (fun u s₂=>wpAny (model X.prog X.w) X.A (f v u) Q X.xe s₂) X.xe s₁) X.xe s:=by
 refine thn (ha pins s σ H _ I h) fun v s1 ⟨x,H1,I1,r1,q1⟩=>?_
 refine thn (hb pins s1 σ H1 _ I1 q1) fun u s2 ⟨y,H2,I2,r2,q2⟩=>?_
 exact hf v u s2 x y H2 I2 r1 r2 q2
theorem j1h {op:Operator}{r:R2} (ho:OpR X (binaryOp op) r) (ha:PE X a ta) (hb:PE X b tb):PE X (.BinOp a op b pos) (tOp r ta tb):=by
 intro pins s σ H Q I h
 exact wpAny_BinOp (binT ha hb I h fun v u s2 x y H2 I2 rx ry q=>ho pins s2 σ H2 x y v u Q I2 rx ry q)
theorem pe_un {op:UnaryOp}{r:V→Hp→VK→Prop} (ho:UnR X (unaryOp op) r) (ha:PE X a ta):PE X (.UnaryOp op a pos) (tUn r ta):=by
 intro pins s σ H Q I h
 exact UnaryOp_ (thn (ha pins s σ H _ I h) fun v s1 ⟨x,H1,I1,r1,q1⟩=>ho pins s1 σ H1 x v Q I1 r1 q1)
theorem opI {f:Value→Value→Sem Value}{C:Int→Int→Prop}{g:Int→Int→Int}
  (rule:∀ (i j:Int) (t u:Tok) (s:Shared) (Q:Value→Shared→Prop) (E:Value→Shared→Prop),C i j→Q (.int (g i j) s.toks) { s with toks:=s.toks+1 }→wpAny (model X.prog X.w) X.A (f (.int i t) (.int j u)) Q E s) :
  OpR X f (rI C fun i j=>.int (g i j)):=by
 intro pins s σ H x y v u Q I rx ry h
 obtain⟨i,j,rfl,rfl,hc,q⟩:=h
 obtain⟨t,rfl⟩:=rx
 obtain⟨t',rfl⟩:=ry
 exact rule i j t t' s _ _ hc ⟨.int (g i j),H,I.tok _,⟨_,rfl⟩,q⟩
theorem opI0 {f:Value→Value→Sem Value}{g:Int→Int→Int}
  (rule:∀ (i j:Int) (t u:Tok) (s:Shared) (Q:Value→Shared→Prop) (E:Value→Shared→Prop),Q (.int (g i j) s.toks) { s with toks:=s.toks+1 }→wpAny (model X.prog X.w) X.A (f (.int i t) (.int j u)) Q E s) :
  OpR X f (rI0 fun i j=>.int (g i j)):=by
 intro pins s σ H x y v u Q I rx ry h
 obtain⟨i,j,rfl,rfl,q⟩:=h
 obtain⟨t,rfl⟩:=rx
 obtain⟨t',rfl⟩:=ry
 exact rule i j t t' s _ _ ⟨.int (g i j),H,I.tok _,⟨_,rfl⟩,q⟩
theorem opB0 {f:Value→Value→Sem Value}{g:Int→Int→Bool}
  (rule:∀ (i j:Int) (t u:Tok) (s:Shared) (Q:Value→Shared→Prop) (E:Value→Shared→Prop),Q (.bool (g i j)) s→wpAny (model X.prog X.w) X.A (f (.int i t) (.int j u)) Q E s) :
  OpR X f (rI0 fun i j=>.bl (g i j)):=by
 intro pins s σ H x y v u Q I rx ry h
 obtain⟨i,j,rfl,rfl,q⟩:=h
 obtain⟨t,rfl⟩:=rx
 obtain⟨t',rfl⟩:=ry
 exact rule i j t t' s _ _ ⟨.bl (g i j),H,I,rfl,q⟩
def CMul (i j:Int):Prop:=(-(2 ^ 64) < i∧i < 2 ^ 64)∨(-(2 ^ 64) < j∧j < 2 ^ 64)
theorem CMul.ok {i j:Int} (h:CMul i j):IntMulOk i j:=by
 rcases h with⟨h1,h2⟩ | ⟨h1,h2⟩
 ·exact .of_left (intBits_le_64 h1 h2)
 ·exact .of_right (intBits_le_64 h1 h2)
theorem op_add:OpR X (binaryOp .Add) (rI0 fun i j=>.int (i+j)):=opI0 fun _ _ _ _ _ _ _ q=>add_int q
theorem j8r:OpR X (binaryOp .Sub) (rI0 fun i j=>.int (i-j)):=opI0 fun _ _ _ _ _ _ _ q=>sub_int q
theorem j8s:OpR X (binaryOp .Mod) (rI (fun _ j=>0 < j) fun i j=>.int (i % j)):=opI fun i j _ _ _ _ _ hc q=>by
 have h1:(0:Int) < j:=hc
 exact mod_int' (by omega) (by rw[Int.fmod_eq_emod_of_nonneg i (by omega)];exact q)
theorem unI {f:Value→Sem Value}{g:Int→Int}
  (rule:∀ (i:Int) (t:Tok) (s:Shared) (Q:Value→Shared→Prop) (E:Value→Shared→Prop),Q (.int (g i) s.toks) { s with toks:=s.toks+1 }→wpAny (model X.prog X.w) X.A (f (.int i t)) Q E s) :
  UnR X f (rU fun i=>.int (g i)):=by
 intro pins s σ H x v Q I rx h
 obtain⟨i,rfl,q⟩:=h
 obtain⟨t,rfl⟩:=rx
 exact rule i t s _ _ ⟨.int (g i),H,I.tok _,⟨_,rfl⟩,q⟩
theorem jhs:UnR X (unaryOp .USub) (rU fun i=>.int (-i)):=unI fun _ _ _ _ _ q=>neg_int q
end
def scal:V→V→Bool
 | .non,.non=>true | .non,.int _=>true | .int _,.non=>true | .non,.bl _=>true | .bl _,.non=>true | .non,.str _=>true | .str _,.non=>true
 | .int _,.int _=>true | .bl _,.bl _=>true | .str _,.str _=>true | .byt _,.byt _=>true
 | .int _,.str _=>true | .str _,.int _=>true | .bl _,.str _=>true | .str _,.bl _=>true
 | _,_=>false
def rEq:R2:=fun x y H Q=>scal x y=true∧Q (.bl (decide (x=y))) H
def rNe:R2:=fun x y H Q=>scal x y=true∧Q (.bl (!decide (x=y))) H
theorem jdz {i j:Int}:decide (V.int i=V.int j)=(i == j):=by
 rw[Bool.eq_iff_iff]
 simp
theorem jht {i j:Bool}:decide (V.bl i=V.bl j)=(i == j):=by
 rw[Bool.eq_iff_iff]
 simp
theorem je0 {i j:Str}:decide (V.str i=V.str j)=(i == j):=by
 rw[Bool.eq_iff_iff]
 simp
theorem je1 {i j:Array UInt8}:decide (V.byt i=V.byt j)=(i.toList == j.toList):=by
 rw[Bool.eq_iff_iff]
 cases i
 cases j
 simp
section
variable {X:Cx}{a b c:Expr}{ta tb tc:TE}{pos:Pos}
theorem j0l {pins:List (Addr × Obj)}{σ:St}{H:Hp}{s:Shared}{Q:VK}{k k':Bool} (I:Inv X pins σ H s) (q:Q (.bl k) H) (e:k=k'):EP X pins σ Q (.bool k') s:=by
 subst e
 exact⟨.bl k,H,I,rfl,q⟩
theorem op_eq:OpR X (compareOp .Eq) rEq:=by
 intro pins s σ H x y v u Q I rx ry h
 obtain⟨hs,q⟩:=h
 cases x with
 | non =>
  cases rx
  cases y with
  | non=>cases ry;exact PySem.EqNone.eq_none_none (j0l I q (by simp))
  | bl j=>cases ry;exact PySem.EqNone.eq_none_bool (j0l I q (by simp))
  | int j=>obtain⟨t',rfl⟩:=ry;exact PySem.EqNone.eq_none_int (j0l I q (by simp))
  | str j=>obtain⟨t',rfl⟩:=ry;exact PySem.EqNone.eq_none_str (j0l I q (by simp))
  | _=>exact absurd (show false=true from hs) Bool.false_ne_true
 | bl i =>
  cases rx
  cases y with
  | non=>cases ry;exact PySem.EqNone.eq_bool_none (j0l I q (by simp))
  | bl j=>cases ry;exact eq_bool (j0l I q jht)
  | str j=>obtain⟨t',rfl⟩:=ry;exact PySem.EqMixed.eq_bool_str (j0l I q (by simp))
  | _=>exact absurd (show false=true from hs) Bool.false_ne_true
 | int i =>
  obtain⟨t,rfl⟩:=rx
  cases y with
  | non=>cases ry;exact PySem.EqNone.eq_int_none (j0l I q (by simp))
  | int j=>obtain⟨t',rfl⟩:=ry;exact eq_int (j0l I q jdz)
  | str j=>obtain⟨t',rfl⟩:=ry;exact PySem.EqMixed.eq_int_str (j0l I q (by simp))
  | _=>exact absurd (show false=true from hs) Bool.false_ne_true
 | str i =>
  obtain⟨t,rfl⟩:=rx
  cases y with
  | non=>cases ry;exact PySem.EqNone.eq_str_none (j0l I q (by simp))
  | bl j=>cases ry;exact PySem.EqMixed.eq_str_bool (j0l I q (by simp))
  | int j=>obtain⟨t',rfl⟩:=ry;exact PySem.EqMixed.eq_str_int (j0l I q (by simp))
  | str j=>obtain⟨t',rfl⟩:=ry;exact eq_str (j0l I q je0)
  | _=>exact absurd (show false=true from hs) Bool.false_ne_true
 | byt i =>
  obtain⟨t,rfl⟩:=rx
  cases y with
  | byt j=>obtain⟨t',rfl⟩:=ry;exact PySem.W.eq_bytes (j0l I q je1)
  | _=>exact absurd (show false=true from hs) Bool.false_ne_true
 | _=>cases y <;> exact absurd (show false=true from hs) Bool.false_ne_true
theorem jlo:OpR X (compareOp .NotEq) rNe:=by
 intro pins s σ H x y v u Q I rx ry h
 obtain⟨hs,q⟩:=h
 cases x with
 | non =>
  cases rx
  cases y with
  | non=>cases ry;exact PySem.EqNone.ne_none_none (j0l I q (by simp))
  | bl j=>cases ry;exact PySem.EqNone.ne_none_bool (j0l I q (by simp))
  | int j=>obtain⟨t',rfl⟩:=ry;exact PySem.EqNone.ne_none_int (j0l I q (by simp))
  | str j=>obtain⟨t',rfl⟩:=ry;exact PySem.EqNone.ne_none_str (j0l I q (by simp))
  | _=>exact absurd (show false=true from hs) Bool.false_ne_true
 | bl i =>
  cases rx
  cases y with
  | non=>cases ry;exact PySem.EqNone.ne_bool_none (j0l I q (by simp))
  | bl j=>cases ry;exact ne_bool (j0l I q (congrArg not jht))
  | str j=>obtain⟨t',rfl⟩:=ry;exact PySem.EqMixed.ne_bool_str (j0l I q (by simp))
  | _=>exact absurd (show false=true from hs) Bool.false_ne_true
 | int i =>
  obtain⟨t,rfl⟩:=rx
  cases y with
  | non=>cases ry;exact PySem.EqNone.ne_int_none (j0l I q (by simp))
  | int j=>obtain⟨t',rfl⟩:=ry;exact ne_int (j0l I q (congrArg not jdz))
  | str j=>obtain⟨t',rfl⟩:=ry;exact PySem.EqMixed.ne_int_str (j0l I q (by simp))
  | _=>exact absurd (show false=true from hs) Bool.false_ne_true
 | str i =>
  obtain⟨t,rfl⟩:=rx
  cases y with
  | non=>cases ry;exact PySem.EqNone.ne_str_none (j0l I q (by simp))
  | bl j=>cases ry;exact PySem.EqMixed.ne_str_bool (j0l I q (by simp))
  | int j=>obtain⟨t',rfl⟩:=ry;exact PySem.EqMixed.ne_str_int (j0l I q (by simp))
  | str j=>obtain⟨t',rfl⟩:=ry;exact ne_str (j0l I q (congrArg not je0))
  | _=>exact absurd (show false=true from hs) Bool.false_ne_true
 | byt i =>
  obtain⟨t,rfl⟩:=rx
  cases y with
  | byt j=>obtain⟨t',rfl⟩:=ry;exact PySem.W.ne_bytes (j0l I q (congrArg not je1))
  | _=>exact absurd (show false=true from hs) Bool.false_ne_true
 | _=>cases y <;> exact absurd (show false=true from hs) Bool.false_ne_true
theorem op_lt:OpR X (compareOp .Lt) (rI0 fun i j=>.bl (decide (i < j))):=opB0 fun _ _ _ _ _ _ _ q=>lt_int q
theorem op_le:OpR X (compareOp .LtE) (rI0 fun i j=>.bl (decide (i≤j))):=opB0 fun _ _ _ _ _ _ _ q=>le_int q
theorem op_gt:OpR X (compareOp .Gt) (rI0 fun i j=>.bl (decide (j < i))):=opB0 fun _ _ _ _ _ _ _ q=>gt_int q
theorem op_isN:OpR X (compareOp .Is) (fun x y H Q=>y=.non∧Q (.bl (decide (x=.non))) H):=by
 intro pins s σ H x y v u Q I rx ry h
 obtain⟨rfl,q⟩:=h
 cases ry
 refine is_none_gen (j0l I q ?_)
 cases x <;> first
  | (cases rx;rfl)
  | (obtain⟨t,rfl⟩:=rx;rfl)
theorem jhu:OpR X (compareOp .IsNot) (fun x y H Q=>y=.non∧Q (.bl (!decide (x=.non))) H):=by
 intro pins s σ H x y v u Q I rx ry h
 obtain⟨rfl,q⟩:=h
 cases ry
 refine isnot_none_gen (j0l I q ?_)
 cases x <;> first
  | (cases rx;rfl)
  | (obtain⟨t,rfl⟩:=rx;rfl)
theorem OpR.or {f:Value→Value→Sem Value}{r r':R2} (h:OpR X f r) (h':OpR X f r'):OpR X f (fun x y H Q=>r x y H Q∨r' x y H Q):=by
 intro pins s σ H x y v u Q I rx ry q
 rcases q with q | q
 ·exact h pins s σ H x y v u Q I rx ry q
 ·exact h' pins s σ H x y v u Q I rx ry q
theorem j0o (b:Expr) {op:CmpOp} (h:op≠.In:=by decide) (h2:op≠.NotIn:=by decide):behindInMarks op b=false:=by
 have e1:(op == CmpOp.In)=false:=by cases op <;> first | rfl | exact absurd rfl h
 have e2:(op == CmpOp.NotIn)=false:=by cases op <;> first | rfl | exact absurd rfl h2
 cases b <;> simp[behindInMarks,e1,e2]
theorem j1i {op:CmpOp}{r:R2} (ho:OpR X (compareOp op) r) (ha:PE X a ta) (hb:PE X b tb) (hm:behindInMarks op b=false):PE X (.Compare a [op] [b] pos) (tOp r ta tb):=by
 intro pins s σ H Q I h
 exact wpAny_Compare1 (binT ha hb I h fun v u s2 x y H2 I2 rx ry q=>ho pins s2 σ H2 x y v u Q I2 rx ry q) hm
def jm6 (t:TE):TT:=fun σ H Q=>t σ H fun x H'=>∃ k,x=.bl k∧Q k H'
theorem j0h {op:CmpOp}{r:R2} (ho:OpR X (compareOp op) r) (ha:PE X a ta) (hb:PE X b tb) (hm:behindInMarks op b=false):PT X (.Compare a [op] [b] pos) (jm6 (tOp r ta tb)):=by
 intro pins s σ H Q I h
 refine wpAny_isTrue_Compare1 (thn (ha pins s σ H _ I h) fun v s1 ⟨x,H1,I1,r1,q1⟩=>thn (hb pins s1 σ H1 _ I1 q1) fun u s2 ⟨y,H2,I2,r2,q2⟩ =>
  thn (ho pins s2 σ H2 x y v u _ I2 r1 r2 q2) fun c s3 ⟨z,H3,I3,r3,k,e,q3⟩=>?_) hm
 subst e
 cases r3
 exact wpAny_truthy_bool ⟨H3,I3,q3⟩
def jf8 (r r':R2) (ta tb tc:TE):TE:=fun σ H Q=>ta σ H fun x H1=>tb σ H1 fun y H2=>r x y H2 fun z H3=>∃ k,z=.bl k ∧
 (if k=true then tc σ H3 fun w' H4=>r' y w' H4 Q else Q (.bl false) H3)
theorem j9n {op op':CmpOp}{r r':R2} (ho:OpR X (compareOp op) r) (ho':OpR X (compareOp op') r') (ha:PE X a ta) (hb:PE X b tb) (hc:PE X c tc)
  (hm:lastMarks [op,op'] [b,c]=false:=by with_unfolding_all rfl):PE X (.Compare a [op,op'] [b,c] pos) (jf8 r r' ta tb tc):=by
 intro pins s σ H Q I h
 refine Compare_chain (thn (ha pins s σ H _ I h) fun v s1 ⟨x,H1,I1,r1,q1⟩=>chain_link (thn (hb pins s1 σ H1 _ I1 q1) fun u s2 ⟨y,H2,I2,r2,q2⟩ =>
  thn (ho pins s2 σ H2 x y v u _ I2 r1 r2 q2) fun d s3 ⟨z,H3,I3,r3,k,e,q3⟩=>?_)) hm
 subst e
 cases r3
 refine wpAny_truthy_bool ?_
 cases k with
 | false=>exact ite_ff ⟨.bl false,H3,I3,rfl,q3⟩
 | true=>exact ite_tt (chain_last (thn (hc pins s3 σ H3 _ I3 q3) fun w' s4 ⟨z',H4,I4,r4,q4⟩=>ho' pins s4 σ H4 y z' u w' Q I4 r2 r4 q4))
theorem jf9 {op op':CmpOp}{r r':R2} (ho:OpR X (compareOp op) r) (ho':OpR X (compareOp op') r') (ha:PE X a ta) (hb:PE X b tb) (hc:PE X c tc)
  (hm:lastMarks [op,op'] [b,c]=false:=by with_unfolding_all rfl):PT X (.Compare a [op,op'] [b,c] pos) (jm6 (jf8 r r' ta tb tc)):=by
 intro pins s σ H Q I h
 refine isTrue_chain (thn (ha pins s σ H _ I h) fun v s1 ⟨x,H1,I1,r1,q1⟩=>test_link (thn (hb pins s1 σ H1 _ I1 q1) fun u s2 ⟨y,H2,I2,r2,q2⟩ =>
  thn (ho pins s2 σ H2 x y v u _ I2 r1 r2 q2) fun d s3 ⟨z,H3,I3,r3,k,e,q3⟩=>?_)) hm
 subst e
 cases r3
 refine wpAny_truthy_bool ?_
 cases k with
 | false =>
  obtain⟨k',e',q'⟩:=q3
  cases e'
  exact ite_ff ⟨H3,I3,q'⟩
 | true =>
  refine ite_tt (test_last (thn (hc pins s3 σ H3 _ I3 q3) fun w' s4 ⟨z',H4,I4,r4,q4⟩=>thn (ho' pins s4 σ H4 y z' u w' _ I4 r2 r4 q4) fun d' s5 ⟨z2,H5,I5,r5,k2,e2,q5⟩=>?_))
  subst e2
  cases r5
  exact wpAny_truthy_bool ⟨H5,I5,q5⟩
def TruV (K:PySem.W.Frag) (x:V) (H:Hp) (k:Bool):Prop :=
 match x with
 | .non=>k=false
 | .bl b=>k=b
 | .int i=>k=(i != 0)
 | .str y=>y.length≤sizeLine∧k=((y.length:Int) != 0)
 | .byt y=>y.size≤sizeLine∧k=((y.size:Int) != 0)
 | .ref p=>(∃ xs,SqL K H p xs∧k=!xs.isEmpty)∨(∃ xs,SqT K H p xs∧k=!xs.isEmpty)∨∃ kvs,H p=some (.dK kvs)∧k=!kvs.isEmpty
 | _=>False
theorem j9o {κ:Type}{kvs:List (κ × V)}{vs:List (κ × Value)} (r:KV kvs vs):(!vs.isEmpty)=!kvs.isEmpty:=by
 cases r <;> rfl
theorem j5b {xs:List V}{its:List Value} (r:Vals xs its):(!its.toArray.isEmpty)=!xs.isEmpty:=by
 cases r <;> simp
theorem j8t:(sizeLine:Nat) < 2 ^ 63:=by rw[sizeLine_eq];decide
theorem tru_ok:TruR X (fun x H Q=>∃ k,TruV X.K x H k∧Q k H):=by
 intro pins s σ H x v Q I rx h
 obtain⟨k,e,q⟩:=h
 have hl:=j8t
 have hs:sizeLine=16777216:=sizeLine_eq
 cases x with
 | non =>
  cases rx
  have e':k=false:=e
  subst e'
  exact truthy_none ⟨H,I,q⟩
 | bl b =>
  cases rx
  have e':k=b:=e
  subst e'
  exact wpAny_truthy_bool ⟨H,I,q⟩
 | int i =>
  obtain⟨t,rfl⟩:=rx
  have e':k=(i != 0):=e
  subst e'
  exact PySem.P.truthy_int ⟨H,I,q⟩
 | str y =>
  obtain⟨t,rfl⟩:=rx
  obtain⟨hy,e'⟩:y.length≤sizeLine∧k=((y.length:Int) != 0):=e
  subst e'
  exact PySem.P.truthy_str (by omega) ⟨H,I.tok _,q⟩
 | byt y =>
  obtain⟨t,rfl⟩:=rx
  obtain⟨hy,e'⟩:y.size≤sizeLine∧k=((y.size:Int) != 0):=e
  subst e'
  exact PySem.W.truthy_bytes (by omega) ⟨H,I.tok _,q⟩
 | ref p =>
  cases rx
  have e':(∃ xs,SqL X.K H p xs∧k=!xs.isEmpty)∨(∃ xs,SqT X.K H p xs∧k=!xs.isEmpty)∨∃ kvs,H p=some (.dK kvs)∧k=!kvs.isEmpty:=e
  rcases e' with⟨xs,hx,e'⟩ | ⟨xs,hx,e'⟩ | ⟨kvs,hx,e'⟩
  ·subst e'
   obtain⟨its,r,pl,hz⟩:=I.list hx
   have hlen:=r.length
   exact wpAny_truthy_list pl.isList (by simp only[List.size_toArray];omega) ⟨H,I.tok _,by rw[j5b r];exact q⟩
  ·subst e'
   obtain⟨its,r,pl,hz⟩:=I.tuple hx
   have hlen:=r.length
   exact truthy_tuple pl (by simp only[List.size_toArray];omega) ⟨H,I.tok _,by rw[j5b r];exact q⟩
  ·subst e'
   obtain⟨hz,hS,vs,r,m⟩:kvs.length≤sizeLine∧(p == sysModules)=false∧∃ vs,KV kvs vs∧s.heap.DictOf (j11 X.prog X.w) p vs:=I.hok p _ hx
   have hlen:kvs.length=vs.length:=Paired.length r
   exact wpAny_truthy_dict hS m (by omega) ⟨H,I.tok _,by rw[j9o r];exact q⟩
 | _=>exact (show False from e).elim
theorem jfa (ha:PE X a ta) (he:∀ whole,isTrue a X.env whole=(do let v ← whole;standAt a.pos;holding [v] (truthy v))) :
  PT X a (fun σ H Q=>ta σ H fun x H'=>∃ k,TruV X.K x H' k∧Q k H'):=by
 intro pins s σ H Q I h
 exact isTrue_plain (thn (ha pins s σ H _ I h) fun v s1 ⟨x,H1,I1,r1,q1⟩=>tru_ok pins s1 σ H1 x v Q I1 r1 q1) (he _)
theorem j9p:OpR X (binaryOp .Add) (fun x y H Q=>∃ i j,x=.str i∧y=.str j∧i.length+j.length≤sizeLine∧Q (.str (i++j)) H):=by
 intro pins s σ H x y v u Q I rx ry h
 obtain⟨i,j,rfl,rfl,hz,q⟩:=h
 obtain⟨t,rfl⟩:=rx
 obtain⟨t',rfl⟩:=ry
 exact add_str (fun t' tk=>⟨.str (i++j),H,I.tok _,⟨_,rfl⟩,q⟩) hz
theorem j5c {x:V}{us:List Value} (r:Vals [x] us):∃ u,us=[u]∧RelV x u:=by
 cases r with
 | cons r1 r2=>cases r2;exact⟨_,rfl,r1⟩
theorem jhv {x y:V}{us:List Value} (r:Vals [x,y] us):∃ u w',us=[u,w']∧RelV x u∧RelV y w':=by
 cases r with
 | cons r1 r2 =>
  cases r2 with
  | cons r3 r4=>cases r4;exact⟨_,_,rfl,r1,r3⟩
theorem jck (hc:X.calm=true):CallR X (.builtin "max") (fun xs H Q=>∃ i j,xs=[.int i,.int j]∧Q (.int (if j > i then j else i)) H):=by
 intro pins s σ H xs us Q I r h
 obtain⟨i,j,rfl,q⟩:=h
 obtain⟨u,w',rfl,⟨t,rfl⟩,⟨t',rfl⟩⟩:=jhv r
 refine max_two_ints (I.ok.hd hc) fun h' tk k=>⟨_,H,I.kept k,?_,q⟩
 by_cases hj:j > i
 ·rw[if_pos hj,if_pos hj];exact⟨_,rfl⟩
 ·rw[if_neg hj,if_neg hj];exact⟨_,rfl⟩
theorem jcl (hc:X.calm=true):CallR X (.builtin "min") (fun xs H Q=>∃ i j,xs=[.int i,.int j]∧Q (.int (if j < i then j else i)) H):=by
 intro pins s σ H xs us Q I r h
 obtain⟨i,j,rfl,q⟩:=h
 obtain⟨u,w',rfl,⟨t,rfl⟩,⟨t',rfl⟩⟩:=jhv r
 refine min_two_ints (I.ok.hd hc) fun h' tk k=>⟨_,H,I.kept k,?_,q⟩
 by_cases hj:j < i
 ·rw[if_pos hj,if_pos hj];exact⟨_,rfl⟩
 ·rw[if_neg hj,if_neg hj];exact⟨_,rfl⟩
theorem jcm:CallR X (.type "int") (fun xs H Q=>(∃ i,xs=[.int i]∧Q (.int i) H)∨∃ k,xs=[.bl k]∧Q (.int (if k then 1 else 0)) H):=by
 intro pins s σ H xs us Q I r h
 rcases h with⟨i,rfl,q⟩ | ⟨k,rfl,q⟩
 ·obtain⟨u,rfl,t,rfl⟩:=j5c r
  exact call_int_int ⟨.int i,H,I,⟨_,rfl⟩,q⟩
 ·obtain⟨u,rfl,r1⟩:=j5c r
  cases r1
  exact call_int_bool ⟨.int (if k then 1 else 0),H,I.tok _,⟨_,rfl⟩,q⟩
def LenV (K:PySem.W.Frag) (x:V) (H:Hp) (n:Nat):Prop :=
 match x with
 | .str y=>y.length≤sizeLine∧n=y.length
 | .byt y=>y.size≤sizeLine∧n=y.size
 | .ref p=>(∃ xs,SqL K H p xs∧n=xs.length)∨∃ xs,SqT K H p xs∧n=xs.length
 | _=>False
theorem jfb:CallR X (.builtin "len") (fun xs H Q=>∃ x n,xs=[x]∧LenV X.K x H n∧Q (.int n) H):=by
 intro pins s σ H xs us Q I r h
 obtain⟨x,n,rfl,e,q⟩:=h
 obtain⟨u,rfl,rx⟩:=j5c r
 have hl:=j8t
 have hs:sizeLine=16777216:=sizeLine_eq
 cases x with
 | str y =>
  obtain⟨t,rfl⟩:=rx
  obtain⟨hy,e'⟩:y.length≤sizeLine∧n=y.length:=e
  subst e'
  exact len_str (by omega) ⟨.int _,H,I.tok _,⟨_,rfl⟩,q⟩
 | byt y =>
  obtain⟨t,rfl⟩:=rx
  obtain⟨hy,e'⟩:y.size≤sizeLine∧n=y.size:=e
  subst e'
  exact PySem.W.len_bytes (by omega) ⟨.int _,H,I.tok _,⟨_,rfl⟩,q⟩
 | ref p =>
  cases rx
  have e':(∃ xs,SqL X.K H p xs∧n=xs.length)∨∃ xs,SqT X.K H p xs∧n=xs.length:=e
  rcases e' with⟨xs,hx,e'⟩ | ⟨xs,hx,e'⟩
  ·subst e'
   obtain⟨its,r',pl,hz⟩:=I.list hx
   have hlen:=r'.length
   exact Calls.call_len_list pl.isList (by simp only[List.size_toArray];omega) ⟨.int xs.length,H,I.tok _,⟨_,by simp only[List.size_toArray];rw[hlen]⟩,q⟩
  ·subst e'
   obtain⟨its,r',pl,hz⟩:=I.tuple hx
   have hlen:=r'.length
   exact len_tuple pl (by simp only[List.size_toArray];omega) ⟨.int xs.length,H,I.tok _,⟨_,by simp only[List.size_toArray];rw[hlen]⟩,q⟩
 | _=>exact (show False from e).elim
end
structure ObjM (h:Heap) (x dx C:Addr) (mA:Str→Option Value):Prop where
 obj:h.get? x=some (PySem.W.instObj C dx)
 ns:h.Ns1 dx mA
 ne:dx≠x
theorem jcn {h:Heap}{dx:Addr}{mA:Str→Option Value} (n:h.Ns1 dx mA):∃ od,h.get? dx=some od∧∀ name,PySem.W.lookIn name od=some (mA name):=by
 obtain⟨o,es,ep,ho,hd,hk,_,hm⟩:=n
 refine⟨o,ho,fun name=>?_⟩
 have e:=hm name
 unfold nsFind findBy at e
 rw[← Array.find?_toList] at e
 unfold PySem.W.lookIn
 rw[hd]
 dsimp only
 split
 ·rename_i y q
  rw[q] at e
  exact congrArg some e
 ·rename_i q
  rw[q] at e
  have a:es.toList.any (·.refKey)=false:=by
   rw[List.any_eq_false]
   intro y hy
   obtain⟨z,t,hkey⟩:=hk y (Array.mem_toList_iff.mp hy)
   simp[DictEntry.refKey,hkey]
  have a':¬ es.toList.any (·.refKey)=true:=by rw[a];exact Bool.false_ne_true
  rw[if_neg a']
  exact congrArg some e
theorem ObjM.look {h:Heap}{x dx C:Addr}{mA:Str→Option Value} (I:ObjM h x dx C mA):∃ od,PySem.W.InstAt h x (PySem.W.instObj C dx) C (some od)∧∀ name,PySem.W.lookIn name od=some (mA name) :=
 let ⟨od,ho,hl⟩:=jcn I.ns
 ⟨od,⟨I.obj,rfl,rfl,ho⟩,hl⟩
section
variable {prog:Program}{w:World}{A:Around}{E:Value→Shared→Prop}{s:Shared}{K:PySem.W.Frag}{x dx C f:Addr}{mA:Str→Option Value}{name:Str}{v:Value}
theorem jhw {expr:Bool}{Q:Value→Shared→Prop} (X:K.In s.heap) (I:ObjM s.heap x dx C mA) (hg:PySem.W.plainGet K C name=true) (hh:PySem.W.hasDictIn K C=true)
  (ha:PySem.W.findIn K (.ref C) name=some none) (hv:mA name=some v) (hv':PySem.W.handedIn v=true) (h:Q v { s with toks:=s.toks+1 }) :
  wpAny (model prog w) A (getAttr (.ref x) name expr) Q E s:=by
 obtain⟨od,J,hl⟩:=I.look
 exact PySem.W.get_value X J (PySem.W.plainGet_of hg).1 (PySem.W.findObj_own hh ha rfl (by rw[hl,hv])) hv' h
theorem jfc {pl:Sem Bool}{Q:Value × List Value→Shared→Prop} (X:K.In s.heap) (I:ObjM s.heap x dx C mA) (hg:PySem.W.plainGet K C name=true)
  (hf:PySem.W.findIn K (.ref C) name=some (some (.ref f))) (ht:PySem.W.isFn K (.ref f)=true) (hv:mA name=none) (h:Q (.ref f,[.ref x]) s) :
  wpAny (model prog w) A (getMethod (.ref x) name pl) Q E s:=by
 obtain⟨od,J,hl⟩:=I.look
 exact PySem.W.method_fn X J (PySem.W.plainGet_of hg).1 (PySem.W.plainGet_of hg).2 hf (beq_iff_eq.mp ht) (by show (PySem.W.lookIn name od).map (·.isSome)=some false;rw[hl,hv];rfl) h
theorem jhx {ns:List Str}{Q:Unit→Shared→Prop} (X:K.In s.heap) (I:ObjM s.heap x dx C mA)
  (hs:PySem.W.findIn K (.ref C) "__setattr__"=some (some (.builtin "object.__setattr__"))) (hp:PySem.W.plainOver K C=true) (ht:PySem.W.takerIn K C name=some none) (hh:PySem.W.hasDictIn K C=true)
  (hw:PySem.Within mA ns) (hsz:ns.length≤sizeLine)
  (h:∀ h',ObjM h' x dx C (fun y=>if y=name then some v else mA y)→Heap.SameBut dx s.heap h'→Q () { s with heap:=h',toks:=s.toks+2 }) :
  wpAny (model prog w) A (setAttr (.ref x) name v) Q E s:=by
 obtain⟨od,J,hl⟩:=I.look
 refine PySem.W.set_plain X J hs (PySem.W.osa_open (s:={ s with toks:=s.toks+1 }) (r:=none) X J hp ht fun b=>?_)
 obtain⟨cd,hc,hd'⟩:=PySem.W.any_some hh
 have hx:s.heap.get? x=some ⟨.ref C,some dx,.plain,#[]⟩:=I.obj
 refine wpAny_bind (wpAny_pure (wpAny_bind (wpAny_bind (wpAny_loadPart hx (wpAny_bind (PySem.W.Looks.here (s:={ s with toks:=s.toks+1 }) (PySem.W.looks_clsIn X hc) ?_))))))
 rw[hd']
 refine wpAny_pure (a:=some dx) (wpAny_bind (wpAny_pure (wpAny_bind ?_)))
 refine wpAny_nsSet1 (s:={ s with toks:=s.toks+1 }) I.ns fun h' hn2 hs2=>?_
 obtain⟨oD,esD,epD,hoD,hdD,hcD⟩:=hn2.count (PySem.Within.cons name v hw)
 refine wpAny_bind (wpAny_lookBehind hoD (by rw[hdD];exact pastItsLine_dict (Nat.le_trans hcD (by rw[List.length_cons];omega))) ?_)
 exact wpAny_pure (h _ ⟨(hs2.2 _ (Ne.symm I.ne)).trans I.obj,hn2,I.ne⟩ hs2)
theorem jfd {R:Result→Shared→Prop}{vs:List Value}{kw:List (Str × Value)} (X:K.In s.heap) (hm:PySem.W.makesIn K C=true)
  (hi:PySem.W.findIn K (.ref C) "__init__"=some (some (.ref f))) (hf:PySem.W.typeIn K (.ref f)=some (.type "function"))
  (h:codeAny (model prog w) (A.under (.builtin "type.__call__" ⟨.ref C :: vs,kw⟩)) (.call (.ref f) ⟨.ref (s.heap.objs.size+1) :: vs,kw⟩) (PySem.W.InitBack (s.heap.objs.size+1) R)
   { s with heap:=(s.heap.push PySem.W.emptyDict).push (PySem.W.instObj C s.heap.objs.size) }) :
  codeAny (model prog w) A (.call (.ref C) ⟨vs,kw⟩) R s:=by
 obtain⟨hh,g,d,t,os⟩:=s
 exact PySem.W.make_core (PySem.W.makes_of X hm) (PySem.W.looks_findIn X hi) (fun self=>PySem.W.bind_fn X self hf) (.inl rfl) h
end
def putF (f:Str) (v:V):List (Str × V)→List (Str × V)
 | []=>[(f,v)]
 | (g,x) :: r=>if g=f then (g,v) :: r else (g,x) :: putF f v r
theorem j40 (f g:Str) (v:V):∀ fs:List (Str × V),(putF f v fs).lookup g=if g=f then some v else fs.lookup g
 | []=>by
  show List.lookup g [(f,v)]=_
  by_cases h:g=f
  ·have hb:(g == f)=true:=beq_iff_eq.mpr h
   simp only[List.lookup,hb,if_pos h]
  ·have hb:(g == f)=false:=beq_eq_false_iff_ne.mpr h
   simp only[List.lookup,hb,if_neg h]
 | (k,x) :: r=>by
  have ih:=j40 f g v r
  rw[show putF f v ((k,x) :: r)=(if k=f then (k,v) :: r else (k,x) :: putF f v r) from rfl]
  by_cases hk:k=f
  ·rw[if_pos hk]
   by_cases h:g=k
   ·have hb:(g == k)=true:=beq_iff_eq.mpr h
    simp only[List.lookup,hb,if_pos (h.trans hk)]
   ·have hb:(g == k)=false:=beq_eq_false_iff_ne.mpr h
    simp only[List.lookup,hb,if_neg (fun e:g=f=>h (e.trans hk.symm))]
  ·rw[if_neg hk]
   by_cases h:g=k
   ·have hb:(g == k)=true:=beq_iff_eq.mpr h
    simp only[List.lookup,hb,if_neg (fun e:g=f=>hk (h.symm.trans e))]
   ·have hb:(g == k)=false:=beq_eq_false_iff_ne.mpr h
    simp only[List.lookup,hb]
    exact ih
theorem j4g (f:Str) (v:V):∀ fs:List (Str × V),f∈(putF f v fs).map (·.1)∧∀ g,g∈fs.map (·.1)→g∈(putF f v fs).map (·.1)
 | []=>⟨by simp[putF],fun g h=>by simp at h⟩
 | (k,x) :: r=>by
  obtain⟨i1,i2⟩:=j4g f v r
  rw[show putF f v ((k,x) :: r)=(if k=f then (k,v) :: r else (k,x) :: putF f v r) from rfl]
  by_cases hk:k=f
  ·rw[if_pos hk]
   subst hk
   exact⟨by simp,fun g h=>by simpa using h⟩
  ·rw[if_neg hk]
   refine⟨?_,fun g h=>?_⟩
   ·rw[List.map_cons]
    exact List.mem_cons_of_mem _ i1
   ·rw[List.map_cons] at h ⊢
    rcases List.mem_cons.mp h with e | e
    ·exact List.mem_cons.mpr (.inl e)
    ·exact List.mem_cons_of_mem _ (i2 g e)
theorem j41 (f:Str) (v:V):∀ fs:List (Str × V),(putF f v fs).length≤fs.length+1
 | []=>by simp[putF]
 | (k,x) :: r=>by
  have ih:=j41 f v r
  rw[show putF f v ((k,x) :: r)=(if k=f then (k,v) :: r else (k,x) :: putF f v r) from rfl]
  by_cases hk:k=f
  ·rw[if_pos hk,List.length_cons,List.length_cons];omega
  ·rw[if_neg hk,List.length_cons,List.length_cons];omega
theorem RelO.some_of {v:V}{o:Option Value} (r:RelO (some v) o):∃ u,o=some u∧RelV v u:=by
 cases o with
 | none=>exact (show False from r).elim
 | some u=>exact⟨u,rfl,r⟩
theorem RelO.none_of {o:Option Value} (r:RelO none o):o=none:=by
 cases o with
 | none=>rfl
 | some u=>exact (show False from r).elim
theorem j7m {v:V}{u:Value} (r:RelV v u):PySem.W.handedIn u=true:=by
 cases v with
 | non=>cases (show u=Value.none from r);rfl
 | bl b=>cases (show u=Value.bool b from r);rfl
 | int i=>obtain⟨t,e⟩:=(show ∃ t,u=Value.int i t from r);cases e;rfl
 | str x=>obtain⟨t,e⟩:=(show ∃ t,u=Value.str x t from r);cases e;rfl
 | byt b=>obtain⟨t,e⟩:=(show ∃ t,u=Value.bytes b t from r);cases e;rfl
 | flt b=>obtain⟨t,e⟩:=(show ∃ t,u=Value.float b t from r);cases e;rfl
 | ref a=>cases (show u=Value.ref a from r);rfl
 | ty n=>cases (show u=Value.type n from r);rfl
section
variable {P:Program}{w:World}{H H':Hp}{h h':Heap}{a C dx:Addr}{fs fs':List (Str × V)}
theorem j7n (hok:HOk P w H h) (e:H a=some (.ins C dx fs)):∃ mA,ObjM h a dx C mA∧(∀ f,RelO (fs.lookup f) (mA f))∧PySem.Within mA (fs.map (·.1))∧fs.length≤1000∧H dx=some (.own a):=by
 obtain⟨d,z,ne,ob,mA,n,r,q⟩:=(show ObjOk P w H h a (.ins C dx fs) from hok a _ e)
 exact⟨mA,⟨ob,n,ne⟩,r,q,z,d⟩
end
structure Cls (K:PySem.W.Frag) (C:Addr):Prop where
 pg:PySem.W.plainGet K C Str.empty=true
 hd:PySem.W.hasDictIn K C=true
 po:PySem.W.plainOver K C=true
 sa:PySem.W.findIn K (.ref C) "__setattr__"=some (some (.builtin "object.__setattr__"))
theorem Cls.get {K:PySem.W.Frag}{C:Addr} (c:Cls K C) (f:Str):PySem.W.plainGet K C f=true:=c.pg
def NoAttr (K:PySem.W.Frag) (C:Addr) (f:Str):Prop:=PySem.W.findIn K (.ref C) f=some none
theorem NoAttr.taker {K:PySem.W.Frag}{C:Addr}{f:Str} (n:NoAttr K C f):PySem.W.takerIn K C f=some none:=by
 unfold PySem.W.takerIn
 rw[show PySem.W.findIn K (.ref C) f=some none from n]
 rfl
structure Con (K:PySem.W.Frag) (C:Addr) (f:Str) (v:V) (u:Value):Prop where
 at_:PySem.W.findIn K (.ref C) f=some (some u)
 rel:RelV v u
 get:PySem.W.specialIn K u "__get__"=some none
 cp:PySem.W.copiedNames.contains f=false
structure Meth (K:PySem.W.Frag) (C:Addr) (m:Str) (f:Addr):Prop where
 at_:PySem.W.findIn K (.ref C) m=some (some (.ref f))
 fn:PySem.W.isFn K (.ref f)=true
 kp:PySem.W.keepIn K (.ref f)=true
section
variable {X:Cx}{pins:List (Addr × Obj)}{σ:St}{H:Hp}{s:Shared}{a C dx:Addr}{fs:List (Str × V)}{f:Str}{v:V}{A:Around}{E:Value→Shared→Prop}
theorem j9q {b:Bool}{Q:Value→Shared→Prop} (I:Inv X pins σ H s) (e:H a=some (.ins C dx fs)) (c:Cls X.K C) (n:NoAttr X.K C f) (l:fs.lookup f=some v)
  (h:∀ u s',Inv X pins σ H s'→RelV v u→Q u s'):wpAny (model X.prog X.w) A (getAttr (.ref a) f b) Q E s:=by
 obtain⟨mA,O,r,_,_,_⟩:=j7n I.hok e
 obtain⟨u,hu,ru⟩:=RelO.some_of (v:=v) (o:=mA f) (by rw[← l];exact r f)
 exact jhw I.kIn O (c.get f) c.hd n hu (j7m ru) (h u _ (I.tok _) ru)
theorem j5d {m:Str}{g:Addr}{pl:Sem Bool}{Q:Value × List Value→Shared→Prop} (I:Inv X pins σ H s) (e:H a=some (.ins C dx fs)) (c:Cls X.K C) (k:Meth X.K C m g) (l:fs.lookup m=none)
  (h:Q (.ref g,[.ref a]) s):wpAny (model X.prog X.w) A (getMethod (.ref a) m pl) Q E s:=by
 obtain⟨mA,O,r,_,_,_⟩:=j7n I.hok e
 have hn:mA m=none:=RelO.none_of (by rw[← l];exact r m)
 exact jfc I.kIn O (c.get m) k.at_ k.fn hn h
theorem j9r {y:V}{u:Value}{Q:Unit→Shared→Prop} (I:Inv X pins σ H s) (e:H a=some (.ins C dx fs)) (c:Cls X.K C) (n:NoAttr X.K C f) (hl:fs.length < 1000) (ry:RelV y u)
  (h:∀ s',Inv X pins σ (upd H a (.ins C dx (putF f y fs))) s'→Q () s'):wpAny (model X.prog X.w) A (setAttr (.ref a) f u) Q E s:=by
 obtain⟨mA,O,r,wi,_,ho⟩:=j7n I.hok e
 have hz:(fs.map (·.1)).length≤sizeLine:=by rw[List.length_map,sizeLine_eq];omega
 refine jhx I.kIn O c.sa c.po n.taker c.hd wi hz fun h' O' sb=>h _ ?_
 have hd:∃ o,h'.get? dx=some o:=let ⟨o,_,_,e',_⟩:=O'.ns;⟨o,e'⟩
 refine I.write (x:=a) (e:=dx) (by rw[e];exact True.intro) (.inr ho) (fun b q hb z=>(sb.2 b hb).trans z) hd ?_
 refine⟨by rw[j08 O.ne];exact ho,?_,O.ne,O'.obj,_,O'.ns,fun g=>?_,fun g hg=>?_⟩
 ·have:=j41 f y fs;omega
 ·show RelO ((putF f y fs).lookup g) (if g=f then some u else mA g)
  rw[j40]
  by_cases q:g=f
  ·rw[if_pos q,if_pos q];exact ry
  ·rw[if_neg q,if_neg q];exact r g
 ·by_cases q:g=f
  ·rw[q];exact (j4g f y fs).1
  ·refine (j4g f y fs).2 g (wi g fun z=>hg ?_)
   show (if g=f then some u else mA g)=none
   rw[if_neg q];exact z
theorem Inv.made (I:Inv X pins σ H s):Inv X pins σ (upd (upd H s.heap.objs.size (.own (s.heap.objs.size+1))) (s.heap.objs.size+1) (.ins C s.heap.objs.size []))
  { s with heap:=(s.heap.push PySem.W.emptyDict).push (PySem.W.instObj C s.heap.objs.size) }:=by
 have e1:(s.heap.push PySem.W.emptyDict).get? s.heap.objs.size=some PySem.W.emptyDict:=Heap.get?_push_size s.heap rfl
 have e2:((s.heap.push PySem.W.emptyDict).push (PySem.W.instObj C s.heap.objs.size)).get? (s.heap.objs.size+1)=some (PySem.W.instObj C s.heap.objs.size):=by
  have:=Heap.get?_push_size (s.heap.push PySem.W.emptyDict) (o:=PySem.W.instObj C s.heap.objs.size) rfl
  rwa [Heap.size_push] at this
 have e3:(s.heap.push PySem.W.emptyDict).Ns s.heap.objs.size (fun _=>none):=⟨PySem.W.emptyDict,#[],_,e1,rfl,(fun e he=>absurd he (by simp)),fun _=>rfl⟩
 have I1:=I.laid (a:=s.heap.objs.size) (o:=.own (s.heap.objs.size+1)) (h':=s.heap.push PySem.W.emptyDict) (t':=s.toks) (fun b u q=>Heap.get?_push_of_some _ q) (Nat.le_refl _) ⟨_,e1⟩
 refine I1.laid (a:=s.heap.objs.size+1) (o:=.ins C s.heap.objs.size []) (t':=s.toks) (fun b u q=>Heap.get?_push_of_some _ q) (Nat.le_of_eq (Heap.size_push _ _)) ?_
 have ne:s.heap.objs.size≠s.heap.objs.size+1:=Nat.ne_of_lt (Nat.lt_succ_self _)
 refine⟨by rw[j08 ne,j07],Nat.zero_le _,ne,e2,fun _=>none,(Heap.Ns1.of_empty e3).at fun o q=>Heap.get?_push_of_some _ q,fun _=>True.intro,fun y hy=>absurd rfl hy⟩
theorem jhy {prog:Program}{w:World}{env:Env}{e:Expr}{f:Str}{pos:Pos}{s:Shared}{Q:Value→Shared→Prop} (hb:attributeBase e f env (eval e env)=eval e env)
  (h:wpAny (model prog w) A (eval e env) (fun o s₁=>wpAny (model prog w) A (getAttr o f true) Q E s₁) E s):wpAny (model prog w) A (eval (.Attribute e f pos) env) Q E s :=
 Attribute_any_ h (by rw[arm_eval_Attribute,hb])
end
def tFld (K:PySem.W.Frag) (ta:TE) (f:Str):TE:=fun σ H Q=>ta σ H fun x H1=>∃ a C dx fs v,x=.ref a∧H1 a=some (.ins C dx fs)∧Cls K C∧NoAttr K C f∧fs.lookup f=some v∧Q v H1
def sFld (K:PySem.W.Frag) (ta tv:TE) (f:Str):TS:=fun D σ H=>tv σ H fun y H1=>ta σ H1 fun x H2=>∃ a C dx fs,x=.ref a∧H2 a=some (.ins C dx fs)∧Cls K C∧NoAttr K C f∧fs.length < 1000 ∧
 D.nx σ (upd H2 a (.ins C dx (putF f y fs)))
section
variable {X:Cx}{o e value:Expr}{f:Str}{pos pos' tpos:Pos}{ta tv:TE}
theorem j30 (he:PE X e ta) (hb:attributeBase e f X.env (eval e X.env)=eval e X.env):PE X (.Attribute e f pos) (tFld X.K ta f):=by
 intro pins s σ H Q I h
 refine jhy hb (thn (he pins s σ H _ I h) fun u s1 ⟨x,H1,I1,rx,a,C,dx,fs,v,ex,ea,c,n,l,q⟩=>?_)
 subst ex
 obtain rfl:u=Value.ref a:=rx
 exact j9q I1 ea c n l fun u' s2 I2 ru=>⟨v,H1,I2,ru,q⟩
theorem j5e (ha:PE X o ta) (hv:PE X value tv) (hs:swapsWith value (some (.Attribute o f pos')) pos.line X.env=pure false):PS X (.Assign [.Attribute o f pos'] value pos) (sFld X.K ta tv f):=by
 intro pins s σ H D I h
 refine plainObj_wpAny_Assign_Attribute (thn (hv pins s σ H _ I h) fun u s1 ⟨y,H1,I1,ry,q⟩=>thn (ha pins s1 σ H1 _ I1 q) fun ov s2 ⟨x,H2,I2,rx,a,C,dx,fs,ex,ea,c,n,l,q2⟩=>?_) hs
 subst ex
 obtain rfl:ov=Value.ref a:=rx
 exact j9r I2 ea c n l ry fun s3 I3=>⟨σ,_,I3,q2⟩
end
section
variable {X:Cx}{pins:List (Addr × Obj)}{σ:St}{H:Hp}{s:Shared}{A:Around}{E:Value→Shared→Prop}{Q:Value→Shared→Prop}{c:Value}{b:Bool}
inductive TyOf (K:PySem.W.Frag) (H:Hp):V→Value→Prop where
 | non:TyOf K H .non (.type "NoneType")
 | bl (x:Bool):TyOf K H (.bl x) (.type "bool")
 | int (i:Int):TyOf K H (.int i) (.type "int")
 | str (x:Str):TyOf K H (.str x) (.type "str")
 | flt (x:UInt64):TyOf K H (.flt x) (.type "float")
 | lst {a:Addr}{xs:List V} (e:H a=some (.lst xs)):TyOf K H (.ref a) (.type "list")
 | frz {a:Addr}{o:Obj}{xs:List V} (e:H a=some (.frz o (.lst xs))):TyOf K H (.ref a) (.type "list")
 | tup {a:Addr}{xs:List V} (e:H a=some (.tup xs)):TyOf K H (.ref a) (.type "tuple")
 | dK {a:Addr}{kvs:List (Key × V)} (e:H a=some (.dK kvs)):TyOf K H (.ref a) (.type "dict")
 | dT {a:Addr}{kvs:List (List Key × V)} (e:H a=some (.dT kvs)):TyOf K H (.ref a) (.type "dict")
 | ins {a C dx:Addr}{fs:List (Str × V)} (e:H a=some (.ins C dx fs)) (cl:Cls K C) (ha:PySem.W.findIn K (.ref C) "__class__"=some (some (.builtin "object.__class__")))
   (hn:PySem.W.specialIn K (.builtin "object.__class__") "__get__"=some (some (.builtin "getset_descriptor.__get__"))) (htk:PySem.W.takesIn K (.builtin "object.__class__")=some true)
   (hm:PySem.W.mroIn K C (.type "object")=some true):TyOf K H (.ref a) (.ref C)
theorem j7o {x:V}{u t:Value} (I:Inv X pins σ H s) (rx:RelV x u) (ty:TyOf X.K H x t) (e:PySem.W.kitOne X.K t c=some b) (h:∀ tk,Q (.bool b) { s with toks:=tk }) :
  wpAny (model X.prog X.w) A (call (.builtin "isinstance") [u,c]) Q E s:=by
 cases ty with
 | non=>cases (show u=Value.none from rx);exact PySem.W.kia_one PySem.W.kitx_none I.kIn True.intro e (fun z=>nomatch z) h
 | bl y=>cases (show u=Value.bool y from rx);exact PySem.W.kia_one PySem.W.kitx_bool I.kIn True.intro e (fun z=>nomatch z) h
 | int i=>obtain⟨t,q⟩:=(show ∃ t,u=Value.int i t from rx);cases q;exact PySem.W.kia_one PySem.W.kitx_int I.kIn True.intro e (fun z=>nomatch z) h
 | str y=>obtain⟨t,q⟩:=(show ∃ t,u=Value.str y t from rx);cases q;exact PySem.W.kia_one PySem.W.kitx_str I.kIn True.intro e (fun z=>nomatch z) h
 | flt y=>obtain⟨t,q⟩:=(show ∃ t,u=Value.float y t from rx);cases q;exact PySem.W.kia_one PySem.W.kitx_float I.kIn True.intro e (fun z=>nomatch z) h
 | @lst a xs ea =>
  cases (show u=Value.ref a from rx)
  obtain⟨_,_,n,_,h1⟩:=(show ObjOk X.prog X.w H s.heap a (.lst xs) from I.hok a _ ea)
  exact PySem.W.kia_one PySem.W.kitx_list I.kIn ⟨_,h1,rfl⟩ e (fun z=>nomatch z) h
 | @frz a ob xs ea =>
  cases (show u=Value.ref a from rx)
  obtain⟨_,_,_,n,_,h1⟩:=(show ObjOk X.prog X.w H s.heap a (.frz ob (.lst xs)) from I.hok a _ ea)
  exact PySem.W.kia_one PySem.W.kitx_list I.kIn ⟨_,h1,rfl⟩ e (fun z=>nomatch z) h
 | @tup a xs ea =>
  cases (show u=Value.ref a from rx)
  obtain⟨_,_,_,p⟩:=(show ObjOk X.prog X.w H s.heap a (.tup xs) from I.hok a _ ea)
  obtain⟨o,h1,h2,_⟩:=p.1
  exact PySem.W.kia_one PySem.W.kitx_tuple I.kIn ⟨o,h1,h2⟩ e (fun z=>nomatch z) h
 | @dK a kvs ea =>
  cases (show u=Value.ref a from rx)
  obtain⟨_,_,vs,_,p⟩:=(show ObjOk X.prog X.w H s.heap a (.dK kvs) from I.hok a _ ea)
  obtain⟨o,es,ep,h1,h2,_⟩:=p
  exact PySem.W.kia_one PySem.W.kitx_dict I.kIn ⟨o,h1,h2.1⟩ e (fun z=>nomatch z) h
 | @dT a kvs ea =>
  cases (show u=Value.ref a from rx)
  obtain⟨_,_,xs,_,o,es,ep,h1,h2,_⟩:=(show ObjOk X.prog X.w H s.heap a (.dT kvs) from I.hok a _ ea)
  exact PySem.W.kia_one PySem.W.kitx_dict I.kIn ⟨o,h1,h2.1⟩ e (fun z=>nomatch z) h
 | @ins a C dx fs ea cl ha hn htk hm =>
  cases (show u=Value.ref a from rx)
  obtain⟨mA,O,_⟩:=j7n I.hok ea
  obtain⟨od,J,_⟩:=O.look
  exact PySem.W.kia_one (PySem.W.kitx_own (cl.get _) cl.hd ha hn htk hm) I.kIn J e (fun z=>nomatch z) h
end
structure Room (k:Nat) (A:Around):Prop where
 hd:A.handled=none
 dp:A.depth+3 * k+5 < recursionLimit
 un:A.units+16 * k+200 < cLine
 gd:A.guards=some []
theorem Room.mono {j k:Nat}{A:Around} (r:Room k A) (h:j≤k):Room j A:=⟨r.hd,by have:=r.dp;omega,by have:=r.un;omega,r.gd⟩
theorem Room.deeper {k:Nat}{A:Around} (r:Room (k+1) A) (env:Env):Room k (A.deeper env) :=
 ⟨r.hd,by have:=r.dp;show A.depth+1+3 * k+5 < _;omega,by have:=r.un;show A.units+3+16 * k+200 < _;omega,r.gd⟩
theorem Room.in1 {k:Nat}{A:Around} (r:Room (k+1) A):Room k A.in1 :=
 ⟨r.hd,by have:=r.dp;show A.depth+3 * k+5 < _;omega,by have:=r.un;show A.units+1+16 * k+200 < _;omega,r.gd⟩
theorem j9s {A:Around}{C:Addr}{us:List Value}{kw:List (Str × Value)}:(A.under (.builtin "type.__call__" ⟨.ref C :: us,kw⟩)).depth=A.depth+1:=by
 first | rfl | simp[Around.under,Code.weight,Code.isCreation,Code.isGuard,Code.isCaller,Code.frames,Code.isFrame,guardIds]
theorem j9t {A:Around}{C:Addr}{us:List Value}{kw:List (Str × Value)}:(A.under (.builtin "type.__call__" ⟨.ref C :: us,kw⟩)).units=A.units+1:=by
 first | rfl | simp[Around.under,Code.cUnits,Code.frames,Code.isFrame]
theorem j8u {A:Around}{C:Addr}{us:List Value}{kw:List (Str × Value)}:(A.under (.builtin "type.__call__" ⟨.ref C :: us,kw⟩)).guards=A.guards:=by
 have hg:(Code.builtin "type.__call__" ⟨.ref C :: us,kw⟩).guards=[]:=by first | rfl | simp[Code.guards,Code.isGuard,guardIds]
 show pushGuards (Code.builtin "type.__call__" ⟨.ref C :: us,kw⟩).guards A.guards=A.guards
 rw[hg]
 cases A.guards <;> rfl
theorem Room.make {k:Nat}{A:Around} (r:Room (k+1) A) (C:Addr) (us:List Value) (kw:List (Str × Value)):Room k (A.under (.builtin "type.__call__" ⟨.ref C :: us,kw⟩)) :=
 ⟨r.hd,by have:=r.dp;rw[j9s];omega,by have:=r.un;rw[j9t];omega,by rw[j8u];exact r.gd⟩
theorem Room.depth {k:Nat}{A:Around} (r:Room k A):A.depth < recursionLimit:=by have:=r.dp;omega
theorem Room.units {k:Nat}{A:Around} (r:Room k A):A.units+64 < cLine:=by have:=r.un;omega
def tNil:TA:=fun _ H Q=>Q [] H
def tCons (ta:TE) (tr:TA):TA:=fun σ H Q=>ta σ H fun x H1=>tr σ H1 fun xs H2=>Q (x :: xs) H2
section
variable {X:Cx}{e:Expr}{es:List Expr}{te:TE}{t:TA}{pos:Pos}
theorem j03:PA X [] tNil:=fun _ _ _ _ H Q I h=>Calls.spliced_nil ⟨[],H,I,.nil,h⟩
theorem j00 (ha:PE X e te) (hr:PA X es t) (hs:starEach (e :: es) X.env=(false,eval e X.env) :: starEach es X.env:=by rfl):PA X (e :: es) (tCons te t):=by
 intro pos pins s σ H Q I h
 rw[hs]
 show wpAny _ _ (spliced ((false,eval e X.env) :: backTo pos (starEach es X.env))) _ _ s
 refine Calls.spliced_cons (thn (ha pins s σ H _ I h) fun u s1 ⟨x,H1,I1,r1,q1⟩=>?_)
 exact thn (hr pos pins s1 σ H1 _ I1 q1) fun us s2 ⟨xs,H2,I2,r2,q2⟩=>⟨x :: xs,H2,I2,.cons r1 r2,q2⟩
def tTup (t:TA):TE:=fun σ H Q=>t σ H fun xs H1=>xs.length≤sizeLine∧∀ p,H1 p=none→Q (.ref p) (upd H1 p (.tup xs))
def tLst (t:TA):TE:=fun σ H Q=>t σ H fun xs H1=>xs.length≤sizeLine∧∀ p,H1 p=none→Q (.ref p) (upd H1 p (.lst xs))
theorem j6i {x1} (h:PA X es t):PE X (.Tuple es x1 pos) (tTup t):=by
 intro pins s σ H Q I hq
 refine wpAny_Tuple_spliced (thn (h pos pins s σ H _ I hq) fun us s1 ⟨xs,H1,I1,r,z,q⟩=>⟨by rw[← r.length];exact z,?_⟩)
 have hf:H1 s1.heap.objs.size=none:=I1.hok.fresh (Nat.le_refl _)
 refine⟨.ref s1.heap.objs.size,upd H1 s1.heap.objs.size (.tup xs),I1.laid (t':=s1.toks) (fun b u e=>Heap.get?_push_of_some _ e) (Nat.le_refl _) ?_,rfl,q _ hf⟩
 exact⟨z,us,r,TupN.new _ _⟩
theorem j5f (h:PA X es t):PE X (.List es pos) (tLst t):=by
 intro pins s σ H Q I hq
 refine wpAny_List_spliced (thn (h pos pins s σ H _ I hq) fun us s1 ⟨xs,H1,I1,r,z,q⟩=>⟨by rw[← r.length];exact z,?_⟩)
 have hf:H1 s1.heap.objs.size=none:=I1.hok.fresh (Nat.le_refl _)
 refine⟨.ref s1.heap.objs.size,upd H1 s1.heap.objs.size (.lst xs),I1.laid (t':=s1.toks) (fun b u e=>Heap.get?_push_of_some _ e) (Nat.le_refl _) ?_,rfl,q _ hf⟩
 exact⟨z,us,0,r,Heap.get?_push_size _ rfl⟩
end
abbrev Sp:=List V→Hp→VK→XK→Prop
abbrev CXT:=List Env→Hp→Shared→XK→Value→Shared→Prop
structure Env0 (P:Program) (w:World) (K:PySem.W.Frag) (mg:Str→Option Value) (base:Heap) (A:Around) (outer:List Env) (s:Shared) (H:Hp):Prop where
 frames:A.frames=some outer
 mod:Mod K mg base
 bs:∀ b o,base.get? b=some o→s.heap.get? b=some o∧H b=none
 bsz:base.objs.size≤s.heap.objs.size
 funs:s.heap.FunFrames base outer
 frf:∀ b∈frs outer,H b=none
 hok:HOk P w H s.heap
 bare:AllBare s.gens
def CE (outer:List Env) (P:Program) (w:World) (H:Hp) (s:Shared) (Q:VK) (u:Value) (s':Shared):Prop :=
 ∃ v H',s'.os=s.os∧AllBare s'.gens∧Un (frs outer) [] H H' s.heap s'.heap∧HOk P w H' s'.heap∧RelV v u∧Q v H'
def CR (CX:CXT) (outer:List Env) (P:Program) (w:World) (H:Hp) (s:Shared) (Q:VK) (E:XK) (r:Result) (s':Shared):Prop :=
 match r with
 | .ok (.ret u)=>CE outer P w H s Q u s'
 | .ok _=>False
 | .error e=>CX outer H s E e s'
structure FnOk (P:Program) (w:World) (K:PySem.W.Frag) (mg:Str→Option Value) (base:Heap) (CX:CXT) (k:Nat) (f:Addr) (fd:FuncData) (ps:List Str) (sp:Sp):Prop where
 len:∀ vs H Q E,sp vs H Q E→vs.length=ps.length
 run:∀ (A:Around) (outer:List Env) (s:Shared) (H:Hp) (args:Args) (us:List Value) (vs:List V) (Q:VK) (E:XK),Room k A→Env0 P w K mg base A outer s H→BindsTo s fd args (ps.zip us)→Vals vs us→sp vs H Q E →
  codeAny (model P w) A (.call (.ref f) args) (CR CX outer P w H s Q E) s
theorem FnOk.mono {P:Program}{w:World}{K:PySem.W.Frag}{mg:Str→Option Value}{base:Heap}{CX:CXT}{j k:Nat}{f:Addr}{fd:FuncData}{ps:List Str}{sp:Sp} (F:FnOk P w K mg base CX j f fd ps sp) (h:j≤k) :
  FnOk P w K mg base CX k f fd ps sp:=⟨F.len,fun A outer s H args us vs Q E hr=>F.run A outer s H args us vs Q E (hr.mono h)⟩
theorem FnOk.imp {P:Program}{w:World}{K:PySem.W.Frag}{mg:Str→Option Value}{base:Heap}{CX:CXT}{k:Nat}{f:Addr}{fd:FuncData}{ps:List Str}{sp sp':Sp} (F:FnOk P w K mg base CX k f fd ps sp)
  (h:∀ vs H Q E,sp' vs H Q E→sp vs H Q E):FnOk P w K mg base CX k f fd ps sp' :=
 ⟨fun vs H Q E q=>F.len vs H Q E (h _ _ _ _ q),fun A outer s H args us vs Q E hr he hb hv hs=>F.run A outer s H args us vs Q E hr he hb hv (h _ _ _ _ hs)⟩
theorem Env0.make {P:Program}{w:World}{K:PySem.W.Frag}{mg:Str→Option Value}{base:Heap}{A:Around}{outer:List Env}{s:Shared}{H:Hp} (e:Env0 P w K mg base A outer s H) (C:Addr) (us:List Value) (kw:List (Str × Value)) :
  Env0 P w K mg base (A.under (.builtin "type.__call__" ⟨.ref C :: us,kw⟩)) outer s H:=⟨by first | exact e.frames | (simpa[Around.under,Code.envs,Code.isFrame,pushEnvs] using e.frames),e.mod,e.bs,e.bsz,e.funs,e.frf,e.hok,e.bare⟩
section
variable {X:Cx}{pins:List (Addr × Obj)}{σ:St}{H:Hp}{s s':Shared}
theorem Inv.env0 (I:Inv X pins σ H s):Env0 X.prog X.w X.K X.mg X.base X.A X.stack s H :=
 ⟨I.ok.frames,I.ok.mod,I.bs,Nat.le_trans I.ok.bsz I.sz,I.stack,I.stkFree,I.hok,I.bare⟩
theorem Inv.after {Q:VK}{u:Value} (I:Inv X pins σ H s) (h:CE X.stack X.prog X.w H s Q u s'):EP X pins σ Q u s':=by
 obtain⟨v,H',os,bare,un,hok,r,q⟩:=h
 obtain⟨hh,g,d,t,os'⟩:=s'
 obtain rfl:os'=s.os:=os
 exact⟨v,H',I.call (h':=hh) (g':=g) (d':=d) (t':=t) (ch:=[]) un hok bare (fun b z=>absurd z (by simp)),r,q⟩
end
def tCall (sp:Sp) (dvs:List V) (E:XK) (t:TA):TE:=fun σ H Q=>t σ H fun vs H1=>sp (vs++dvs) H1 Q E
def jm8 (C:Addr) (m:Str) (sp:Sp) (dvs:List V) (E:XK) (ta:TE) (t:TA):TE:=fun σ H Q=>ta σ H fun x H1=>∃ a dx fs,x=.ref a∧H1 a=some (.ins C dx fs)∧fs.lookup m=none ∧
 t σ H1 fun vs H2=>sp (x :: (vs++dvs)) H2 Q E
def tMake (C:Addr) (sp:Sp) (dvs:List V) (E:XK) (t:TA):TE:=fun σ H Q=>t σ H fun vs H1=>∀ x dx,H1 x=none→H1 dx=none→dx≠x →
 sp (.ref x :: (vs++dvs)) (upd (upd H1 dx (.own x)) x (.ins C dx [])) (fun v H2=>v=.non∧Q (.ref x) H2) E
def Binds (K:PySem.W.Frag) (fd:FuncData) (ps:List Str) (ds:List Value):Prop :=
 ∀ (s:Shared) (us:List Value),K.In s.heap→(us++ds).length=ps.length→BindsTo s fd ⟨us,[]⟩ (ps.zip (us++ds))
theorem Binds.all {K:PySem.W.Frag}{fd:FuncData}{ps:List Str} (h:∀ us:List Value,us.length=ps.length→bindArgs fd ⟨us,[]⟩=pure (ps.zip us)):Binds K fd ps []:=fun s us _ hl=>by
 rw[List.append_nil] at hl ⊢
 exact .of_eq (h us hl)
def j4h (CX:CXT) (X:Cx) (E:XK):Prop:=∀ (pins:List (Addr × Obj)) (σ:St) (H:Hp) (s:Shared) (e:Value) (s':Shared),Inv X pins σ H s→CX X.stack H s E e s'→X.xe e s'
section
variable {X:Cx}{CX:CXT}{k:Nat}{f C:Addr}{fd:FuncData}{ps:List Str}{sp:Sp}{dvs:List V}{ds:List Value}{E:XK}{x m:Str}{p pos apos:Pos}{e o:Expr}{es:List Expr}{ta:TE}{t:TA}
theorem jco {pins:List (Addr × Obj)}{σ:St}{H:Hp}{s:Shared}{Q:VK}{us:List Value}{vs:List V} (F:FnOk X.prog X.w X.K X.mg X.base CX k f fd ps sp) (hr:Room k X.A) (hb:Binds X.K fd ps ds) (hd:Vals dvs ds) (hx:j4h CX X E)
  (I:Inv X pins σ H s) (r:Vals vs us) (h:sp (vs++dvs) H Q E):wpAny (model X.prog X.w) X.A (call (.ref f) us) (EP X pins σ Q) X.xe s:=by
 have r2:Vals (vs++dvs) (us++ds):=r.append hd
 have hl:(us++ds).length=ps.length:=by rw[← r2.length];exact F.len _ _ _ _ h
 refine wpAny_call (codeAny_mono (F.run X.A X.stack s H ⟨us,[]⟩ (us++ds) (vs++dvs) Q E hr I.env0 (hb s us I.kIn hl) r2 h) fun r s' hq=>?_)
 cases r with
 | error e=>exact hx pins σ H s e s' I hq
 | ok fl =>
  cases fl with
  | ret u=>exact I.after hq
  | next=>exact False.elim hq
  | brk=>exact False.elim hq
  | cont=>exact False.elim hq
theorem j0g (F:FnOk X.prog X.w X.K X.mg X.base CX k f fd ps sp) (hr:Room k X.A) (hg:Gl X x) (hm:X.mg x=some (.ref f)) (hk:PySem.W.keepIn X.K (.ref f)=true) (hb:Binds X.K fd ps ds) (hd:Vals dvs ds) (hx:j4h CX X E)
  (ha:PA X (e :: es) t) (hdb:(x == ("__debug__":Str))=false:=by decide) (he:starEach (e :: es) X.env=(false,eval e X.env) :: starEach es X.env:=by rfl) (hpl:(backTo pos (starEach es X.env)).any (·.1)=false:=by rfl) :
  PE X (.Call (.Name x p) (e :: es) [] pos) (tCall sp dvs E t):=by
 intro pins s σ H Q I h
 refine wpAny_Call_Name_kw (j7k I hg hm ?_ hdb)
 refine PySem.W.callWith_K (h₀:=X.base) I.ok.mod.kin hk (thn (ha pos pins s σ H _ I h) fun us s1 ⟨vs,H1,I1,r,q⟩=>⟨I1.kIn,?_⟩) he hpl
 exact jco F hr hb hd hx I1 r q
theorem j18 {pl:Sem Bool} (he:PE X o ta) (c:Cls X.K C) (hm:Meth X.K C m f) (F:FnOk X.prog X.w X.K X.mg X.base CX k f fd ps sp) (hr:Room k X.A) (hb:Binds X.K fd ps ds) (hd:Vals dvs ds) (hx:j4h CX X E) (ha:PA X (e :: es) t)
  (hst:starEach (e :: es) X.env=(false,eval e X.env) :: starEach es X.env:=by rfl) (hpl:(backTo pos (starEach es X.env)).any (·.1)=false:=by rfl)
  (ht:eval (.Call (.Attribute o m apos) (e :: es) [] pos) X.env=(do
   let ov ← eval o X.env
   standAt apos.atName
   let (f,first) ← holding [ov] (getMethod ov m pl)
   callWith pos f first (backTo pos (starEach (e :: es) X.env)) (backToKw pos (keywordEach [] X.env))):=by rfl) :
  PE X (.Call (.Attribute o m apos) (e :: es) [] pos) (jm8 C m sp dvs E ta t):=by
 intro pins s σ H Q I h
 refine PySem.W.methodCall_KW (pl:=pl) (thn (he pins s σ H _ I h) fun u s1 ⟨x,H1,I1,rx,a,dx,fs,ex,ea,l,q⟩=>?_) ht
 subst ex
 obtain rfl:u=Value.ref a:=rx
 refine j5d I1 ea c hm l ?_
 refine PySem.W.callWith_K (first:=[.ref a]) (h₀:=X.base) I.ok.mod.kin hm.kp (thn (ha pos pins s1 σ H1 _ I1 q) fun us s2 ⟨vs,H2,I2,r,q2⟩=>⟨I2.kIn,?_⟩) hst hpl
 exact jco (us:=.ref a :: us) (vs:=.ref a :: vs) F hr hb hd hx I2 (.cons rfl r) q2
theorem j9u {pl:Sem Bool} (he:PE X o ta) (c:Cls X.K C) (hm:Meth X.K C m f) (F:FnOk X.prog X.w X.K X.mg X.base CX k f fd ps sp) (hr:Room k X.A) (hb:Binds X.K fd ps ds) (hd:Vals dvs ds) (hx:j4h CX X E)
  (ht:eval (.Call (.Attribute o m apos) [] [] pos) X.env=(do
   let ov ← eval o X.env
   standAt apos.atName
   let (f,first) ← holding [ov] (getMethod ov m pl)
   callWith pos f first (backTo pos (starEach [] X.env)) (backToKw pos (keywordEach [] X.env))):=by rfl) :
  PE X (.Call (.Attribute o m apos) [] [] pos) (jm8 C m sp dvs E ta tNil):=by
 intro pins s σ H Q I h
 refine PySem.W.methodCall_KW (pl:=pl) (thn (he pins s σ H _ I h) fun u s1 ⟨x,H1,I1,rx,a,dx,fs,ex,ea,l,q⟩=>?_) ht
 subst ex
 obtain rfl:u=Value.ref a:=rx
 refine j5d I1 ea c hm l ?_
 exact PySem.W.callWith_K0 (first:=[.ref a]) I1.kIn hm.kp (jco (us:=[.ref a]) (vs:=[.ref a]) F hr hb hd hx I1 (.cons rfl .nil) q)
structure Mk (K:PySem.W.Frag) (C f:Addr):Prop where
 makes:PySem.W.makesIn K C=true
 init:PySem.W.findIn K (.ref C) "__init__"=some (some (.ref f))
 fn:PySem.W.isFn K (.ref f)=true
 kp:PySem.W.keepIn K (.ref C)=true
theorem jfe {pins:List (Addr × Obj)}{σ:St}{H:Hp}{s:Shared}{Q:VK}{us:List Value}{vs:List V} (M:Mk X.K C f) (F:FnOk X.prog X.w X.K X.mg X.base CX k f fd ps sp) (hr:Room (k+1) X.A) (hb:Binds X.K fd ps ds) (hd:Vals dvs ds)
  (hx:j4h CX X E) (I:Inv X pins σ H s) (r:Vals vs us)
  (h:∀ x dx,H x=none→H dx=none→dx≠x→sp (.ref x :: (vs++dvs)) (upd (upd H dx (.own x)) x (.ins C dx [])) (fun v H2=>v=.non∧Q (.ref x) H2) E) :
  wpAny (model X.prog X.w) X.A (call (.ref C) us) (EP X pins σ Q) X.xe s:=by
 have hq:=h (s.heap.objs.size+1) s.heap.objs.size (I.hok.fresh (Nat.le_succ _)) (I.hok.fresh (Nat.le_refl _)) (Nat.ne_of_lt (Nat.lt_succ_self _))
 have I2:=Inv.made (C:=C) I
 have r2:Vals (V.ref (s.heap.objs.size+1) :: (vs++dvs)) (Value.ref (s.heap.objs.size+1) :: (us++ds)):=.cons rfl (r.append hd)
 have hl:(Value.ref (s.heap.objs.size+1) :: us++ds).length=ps.length:=by
  have e:=r2.length
  rw[F.len _ _ _ _ hq] at e
  exact e.symm
 refine wpAny_call (jfd (f:=f) I.kIn M.makes M.init (beq_iff_eq.mp M.fn) (codeAny_mono (F.run _ X.stack _ _ ⟨Value.ref (s.heap.objs.size+1) :: us,[]⟩ (Value.ref (s.heap.objs.size+1) :: (us++ds)) _ _ E (hr.make C us [])
  (I2.env0.make C us []) (hb _ (Value.ref (s.heap.objs.size+1) :: us) I2.kIn hl) r2 hq) fun r s' hq'=>?_))
 cases r with
 | error e=>exact hx pins σ _ _ e s' I2 hq'
 | ok fl =>
  cases fl with
  | ret u =>
   obtain⟨v,H',I3,rv,ev,q3⟩:=I2.after hq'
   subst ev
   exact⟨rv,⟨V.ref (s.heap.objs.size+1),H',I3,rfl,q3⟩⟩
  | next=>exact False.elim hq'
  | brk=>exact False.elim hq'
  | cont=>exact False.elim hq'
theorem j9v (M:Mk X.K C f) (F:FnOk X.prog X.w X.K X.mg X.base CX k f fd ps sp) (hr:Room (k+1) X.A) (hg:Gl X x) (hm:X.mg x=some (.ref C)) (hb:Binds X.K fd ps ds) (hd:Vals dvs ds) (hx:j4h CX X E)
  (ha:PA X (e :: es) t) (hdb:(x == ("__debug__":Str))=false:=by decide) (he:starEach (e :: es) X.env=(false,eval e X.env) :: starEach es X.env:=by rfl) (hpl:(backTo pos (starEach es X.env)).any (·.1)=false:=by rfl) :
  PE X (.Call (.Name x p) (e :: es) [] pos) (tMake C sp dvs E t):=by
 intro pins s σ H Q I h
 refine wpAny_Call_Name_kw (j7k I hg hm ?_ hdb)
 refine PySem.W.callWith_K (h₀:=X.base) I.ok.mod.kin M.kp (thn (ha pos pins s σ H _ I h) fun us s1 ⟨vs,H1,I1,r,q⟩=>⟨I1.kIn,?_⟩) he hpl
 exact jfe M F hr hb hd hx I1 r q
end
section
variable {X:Cx}{CX:CXT}{k:Nat}{f C:Addr}{fd:FuncData}{ps ks:List Str}{sp:Sp}{E:XK}{x m:Str}{p pos apos kpos:Pos}{e o:Expr}{es:List Expr}{kws:List Keyword}{te ta:TE}{t tk:TA}{nm:Option Str}
structure KBinds (K:PySem.W.Frag) (fd:FuncData) (ps ks:List Str) (g:List Value→List Value→List Value) (gV:List V→List V→List V):Prop where
 to:∀ (s:Shared) (us ws:List Value),K.In s.heap→(g us ws).length=ps.length→BindsTo s fd ⟨us,ks.zip ws⟩ (ps.zip (g us ws))
 rel:∀ {vs:List V}{us:List Value}{zs:List V}{ws:List Value},Vals vs us→Vals zs ws→Vals (gV vs zs) (g us ws)
variable {g:List Value→List Value→List Value}{gV:List V→List V→List V}
end
structure FnScope (N P:List Str) (sc:Scope):Prop where
 kind:sc.kind=.function
 co:sc.isCoroutine=false
 gen:sc.isGenerator=false
 nd:N.Nodup
 pre:N.take P.length=P
 par:∀ x∈P,sc.names.lookup x=some .local∨sc.names.lookup x=some .cell
 nofree:∀ y∈sc.names,y.2≠.free
theorem j7p {kindOf:Str→Option NameKind}{x:Str}:∀ {binds:List (Str × Value)}{m:Str→Option Value},(∀ v,(x,v)∉binds)→bindL kindOf binds m x=m x
 | [],_,_=>rfl
 | (n,v) :: r,m,h=>by
  unfold bindL
  rw[j7p fun w hw=>h w (List.mem_cons_of_mem _ hw)]
  split
  ·have:x≠n:=by rintro rfl;exact h v List.mem_cons_self
   simp[this]
  ·rfl
theorem j7q {kindOf:Str→Option NameKind}{x:Str}:∀ {binds:List (Str × Value)}{m:Str→Option Value},(∀ v,(x,v)∉binds)→bindC kindOf binds m x=m x
 | [],_,_=>rfl
 | (n,v) :: r,m,h=>by
  unfold bindC
  rw[j7q fun w hw=>h w (List.mem_cons_of_mem _ hw)]
  split
  ·rfl
  ·have:x≠n:=by rintro rfl;exact h v List.mem_cons_self
   simp[this]
theorem j7r {kindOf:Str→Option NameKind}{x:Str}{v:Value}:∀ {P:List Str}{vs:List Value}{i:Nat}{m:Str→Option Value},P.Nodup→P[i]?=some x→vs[i]?=some v→kindOf x=some .local →
  bindL kindOf (P.zip vs) m x=some v
 | [],_,_,_,_,h,_,_=>by simp at h
 | _ :: _,[],_,_,_,_,h,_=>by simp at h
 | p :: P,w :: vs,0,m,nd,h1,h2,hk=>by
  simp at h1 h2;subst h1;subst h2
  show bindL kindOf ((p,w) :: P.zip vs) m p=_
  unfold bindL
  rw[j7p fun v hv=>(List.nodup_cons.mp nd).1 (List.of_mem_zip hv).1,if_pos hk]
  simp
 | p :: P,w :: vs,i+1,m,nd,h1,h2,hk=>by
  show bindL kindOf ((p,w) :: P.zip vs) m x=_
  unfold bindL
  exact j7r (i:=i) (List.nodup_cons.mp nd).2 (by simpa using h1) (by simpa using h2) hk
theorem j7s {kindOf:Str→Option NameKind}{x:Str}{v:Value}:∀ {P:List Str}{vs:List Value}{i:Nat}{m:Str→Option Value},P.Nodup→P[i]?=some x→vs[i]?=some v→kindOf x≠some .local →
  bindC kindOf (P.zip vs) m x=some v
 | [],_,_,_,_,h,_,_=>by simp at h
 | _ :: _,[],_,_,_,_,h,_=>by simp at h
 | p :: P,w :: vs,0,m,nd,h1,h2,hk=>by
  simp at h1 h2;subst h1;subst h2
  show bindC kindOf ((p,w) :: P.zip vs) m p=_
  unfold bindC
  rw[j7q fun v hv=>(List.nodup_cons.mp nd).1 (List.of_mem_zip hv).1,if_neg hk]
  simp
 | p :: P,w :: vs,i+1,m,nd,h1,h2,hk=>by
  show bindC kindOf ((p,w) :: P.zip vs) m x=_
  unfold bindC
  exact j7s (i:=i) (List.nodup_cons.mp nd).2 (by simpa using h1) (by simpa using h2) hk
def start (N:List Str) (vs:List V):St:=vs.map some++List.replicate (N.length-vs.length) none
def cxOf (CX:CXT) (P:Program) (w:World) (K:PySem.W.Frag) (mg:Str→Option Value) (base:Heap) (N:List Str) (qual:Str) (scope:Scope) (f:Addr) (cd:Value) (A:Around) (outer:List Env) (s:Shared) (H:Hp) (E:XK):Cx where
 prog:=P
 w:=w
 K:=K
 mg:=mg
 base:=base
 A:=A.deeper (envOfC qual scope s.heap.objs.size f cd)
 N:=N
 s₀:=s
 H₀:=H
 env:=envOfC qual scope s.heap.objs.size f cd
 outer:=outer
 stack:=envOfC qual scope s.heap.objs.size f cd :: outer
 ex:=[]
 calm:=true
 fn:=fun _=>true
 pn:=[]
 xe:=fun e s'=>wpAny (model P w) (A.deeper (envOfC qual scope s.heap.objs.size f cd)) (leaving (envOfC qual scope s.heap.objs.size f cd) e) (fun _ s''=>CX outer H s E e s'') (fun e' s''=>CX outer H s E e' s'') s'
theorem j9w {sc:Scope}{n:Nat}{x:Str} (h:sc.names.lookup x=some .cell):∃ c,(cellsFrom n sc.names []).lookup x=some c:=by
 have q:=PySem.W.cellsFrom_some sc.names n [] (.inl h)
 exact Option.isSome_iff_exists.mp q
theorem jcp {CX:CXT}{P:Program}{w:World}{K:PySem.W.Frag}{mg:Str→Option Value}{base:Heap}{N ps:List Str}{qual:Str}{scope:Scope}{f:Addr}{cd:Value}{A:Around}{outer:List Env}{s s1:Shared}{H:Hp}{E:XK}{us:List Value}{vs:List V}
  (S:FnScope N ps scope) (hd:A.handled=none) (e0:Env0 P w K mg base A outer s H) (hl:vs.length=ps.length) (r:Vals vs us)
  (x:InCallC s s.heap.objs.size (bindL (envOfC qual scope s.heap.objs.size f cd).kindOf (ps.zip us) fun _=>none) (cellsFrom (s.heap.objs.size+1) scope.names []) (bindC (envOfC qual scope s.heap.objs.size f cd).kindOf (ps.zip us) fun _=>none) s1) :
  Inv (cxOf CX P w K mg base N qual scope f cd A outer s H E) [] (start N vs) H s1:=by
 have hpl:ps.length≤N.length:=by have:=congrArg List.length S.pre;rw[List.length_take] at this;omega
 obtain⟨h1,tk,rfl,hk⟩:=x.done
 have noA:∀ b:Addr,b∉(cxOf CX P w K mg base N qual scope f cd A outer s H E).ex:=fun b z=>absurd (show b∈([]:List Addr) from z) (by simp)
 refine⟨⟨e0.mod,S.kind,rfl,rfl,Nat.le_refl _,fun y z c h1 h2=>?_,fun y hy=>?_,fun y c _ h=>?_,fun _=>hd,Around.frames_deeper e0.frames,.inr ⟨rfl,rfl⟩,fun b z=>absurd z (noA b),e0.bs,e0.bsz,fun b _ _=>noA b,fun b z=>absurd z (noA b),e0.funs,e0.frf⟩,
  rfl,e0.bare,Un.kept hk,⟨_,x.toInCall.ns,fun i y v h1 h2 h3=>?_⟩,fun y c h=>⟨_,x.cell y c h⟩,e0.hok.fresh (Nat.le_refl _),fun y c h=>?_,fun p hp=>absurd (show p∈([]:List (Addr × Obj)) from hp) (by simp),e0.hok.kept hk,?_⟩
 ·exact name_of_addr x.apart (PySem.mem_of_lookup h1) (PySem.mem_of_lookup h2)
 ·have hy:scope.names.lookup y=some .cell∨scope.names.lookup y=some .free:=hy
  rcases hy with hy | hy
  ·exact j9w hy
  ·exact absurd rfl (S.nofree _ (PySem.mem_of_lookup hy))
 ·exact Nat.le_of_lt (x.above y c (PySem.mem_of_lookup h))
 ·have hi:i < vs.length:=by
   unfold start at h2
   by_cases hi:i < vs.length
   ·exact hi
   ·rw[List.getElem?_append_right (by simpa using hi)] at h2
    rw[List.getElem?_replicate] at h2
    split at h2 <;> cases h2
  have ha:vs[i]?=some v:=by
   unfold start at h2
   rw[List.getElem?_append_left (by simpa using hi),List.getElem?_map] at h2
   cases e:vs[i]? with
   | none=>rw[e] at h2;cases h2
   | some a=>rw[e] at h2;cases h2;rfl
  obtain⟨u,hu,rv⟩:=r.get ha
  have hp:ps[i]?=some y:=by
   rw[← S.pre,List.getElem?_take_of_lt (by omega)];exact h1
  have ndP:ps.Nodup:=by rw[← S.pre];exact S.nd.sublist (List.take_sublist _ _)
  refine⟨u,rv,?_⟩
  rcases S.par y (List.mem_of_getElem? hp) with k | k
  ·exact .inl ⟨k,j7r ndP hp hu k⟩
  ·obtain⟨c,e⟩:=j9w (n:=s.heap.objs.size+1) k
   refine .inr ⟨.inl k,c,e,?_⟩
   have q:=x.cell y c e
   rw[j7s ndP hp hu (by show scope.names.lookup y≠_;rw[k];decide)] at q
   exact q
 ·exact e0.hok.fresh (Nat.le_of_lt (x.above y c (PySem.mem_of_lookup h)))
 ·unfold start
  show _=N.length
  rw[List.length_append,List.length_map,List.length_replicate]
  omega
theorem jm9 {CX:CXT}{P:Program}{w:World}{K:PySem.W.Frag}{mg:Str→Option Value}{base:Heap}{k:Nat}{f:Addr}{name qual:Str}{params:Arguments}{body:List Stmt}{scope:Scope}{dV kV doc pm cdv ct oc:Value}{an od:Option Addr}
  {osl:Array (Option Value)}{N ps:List Str}{sp:Sp} (lk:K.lookup f=some ⟨oc,od,.func (PySem.W.fnOf name qual params body scope dV kV doc pm an cdv ct),osl⟩) (hcd:PySem.W.codeIn K cdv qual=true) (S:FnScope N ps scope)
  (len:∀ vs H Q E,sp vs H Q E→vs.length=ps.length)
  (hbody:∀ (A:Around) (outer:List Env) (s:Shared) (H:Hp) (vs:List V) (Q:VK) (E:XK),Room k (A.deeper (envOfC qual scope s.heap.objs.size f cdv))→sp vs H Q E →
   ∃ t,PSs (cxOf CX P w K mg base N qual scope f cdv A outer s H E) body t∧t { nx:=fun _ H'=>Q .non H',rt:=Q } (start N vs) H) :
  FnOk P w K mg base CX (k+1) f (PySem.W.fnOf name qual params body scope dV kV doc pm an cdv ct) ps sp:=by
 refine⟨len,fun A outer s H args us vs Q E hr e0 hb r hsp=>?_⟩
 have hl:=len _ _ _ _ hsp
 have KX:K.In s.heap:=e0.mod.kin.keeps fun b o e=>(e0.bs b o e).1
 have lim:s.heap.NoLimit:=e0.mod.nolimit.keeps fun b o e=>(e0.bs b o e).1
 have hkind:∀ y∈ps.zip us,scope.names.lookup y.1=some .local∨(scope.names.lookup y.1=some .cell∧((cellsFrom (s.heap.objs.size+1) scope.names []).lookup y.1).isSome=true):=fun⟨n,v⟩ hy=>by
  rcases S.par n (List.of_mem_zip hy).1 with q | q
  ·exact .inl q
  ·exact .inr ⟨q,PySem.W.cellsFrom_some _ _ _ (.inl q)⟩
 refine codeAny_call_function hr.depth (KX _ _ lk) rfl S.co S.gen rfl (PySem.W.codeRec_of KX hcd) (hb _ _ _ _ ?_)
 refine wpAny_newFunctionEnv_cells S.kind hkind fun env he s1 x=>?_
 subst he
 refine⟨lim.keeps x.toInCall.keep,codeAny_func ?_⟩
 obtain⟨t,ht,hq⟩:=hbody A outer s H vs Q E (hr.deeper _) hsp
 have I:Inv (cxOf CX P w K mg base N qual scope f cdv A outer s H E) [] (start N vs) H s1:=jcp S hr.hd e0 hl r x
 refine wpAny_mono (ht [] s1 (start N vs) H _ I hq) (fun fl s' hs=>?_) fun e s' hs=>hs
 have fin:∀ {σ':St}{H':Hp}{v:V}{u:Value},Inv (cxOf CX P w K mg base N qual scope f cdv A outer s H E) [] σ' H' s'→RelV v u→Q v H'→CE outer P w H s Q u s' :=
  fun {σ' H' v u} J rv q=>⟨v,H',J.os,J.bare,J.base,J.hok,rv,q⟩
 cases fl with
 | ret u =>
  obtain⟨v,σ',H',J,rv,q⟩:=hs
  exact fin J rv q
 | next =>
  obtain⟨σ',H',J,q⟩:=hs
  exact fin (v:=V.non) (u:=Value.none) J rfl q
 | brk =>
  obtain⟨_,_,_,q⟩:=hs
  exact False.elim q
 | cont =>
  obtain⟨_,_,_,q⟩:=hs
  exact False.elim q
section
variable {X:Cx}{x:Str}{p pos:Pos}{e:Expr}{es:List Expr}{t:TA}{id T:String}{r:List V→Hp→VK→Prop}
def tCB (r:List V→Hp→VK→Prop) (t:TA):TE:=fun σ H Q=>t σ H fun vs H1=>r vs H1 Q
theorem j06 (hc:CallR X (.builtin id) r) (hg:Gl X x) (hm:X.mg x=none) (hv:bootBuiltins x=some (.builtin id)) (ha:PA X (e :: es) t) (hn:x≠"__name__":=by decide) (hdb:(x == ("__debug__":Str))=false:=by decide)
  (he:starEach (e :: es) X.env=(false,eval e X.env) :: starEach es X.env:=by rfl) (hpl:(backTo pos (starEach es X.env)).any (·.1)=false:=by rfl):PE X (.Call (.Name x p) (e :: es) [] pos) (tCB r t):=by
 intro pins s σ H Q I h
 refine wpAny_Call_Name_kw (j1y I hg hm hv ?_ hn hdb)
 exact PyProof.Rows.callWith_builtin1 (thn (ha pos pins s σ H _ I h) fun us s1 ⟨vs,H1,I1,r1,q1⟩=>hc pins s1 σ H1 vs us Q I1 r1 q1) he hpl
theorem j0m (hc:CallR X (.type T) r) (hg:Gl X x) (hm:X.mg x=none) (hv:bootBuiltins x=some (.type T)) (ha:PA X (e :: es) t) (hn:x≠"__name__":=by decide) (hdb:(x == ("__debug__":Str))=false:=by decide)
  (he:starEach (e :: es) X.env=(false,eval e X.env) :: starEach es X.env:=by rfl) (hpl:(backTo pos (starEach es X.env)).any (·.1)=false:=by rfl):PE X (.Call (.Name x p) (e :: es) [] pos) (tCB r t):=by
 intro pins s σ H Q I h
 refine wpAny_Call_Name_kw (j1y I hg hm hv ?_ hn hdb)
 exact PyProof.Rows.callWith_type1 (thn (ha pos pins s σ H _ I h) fun us s1 ⟨vs,H1,I1,r1,q1⟩=>hc pins s1 σ H1 vs us Q I1 r1 q1) he hpl
end
end L2
namespace HT
open PySem PyProof.Rows
section
open PySem.SeqAt
open PySem.AutoSeq1 (wpAny_loadPart')
open PySem.MeetsSeq PySem.MeetsSeq2 PySem.MeetsSeq3
end
section
variable {prog:Program}{w:World}{A:Around}{E:Value→Shared→Prop}{s:Shared}
theorem cat_tup {t b:Addr}{vs ws:List Value}{Q:Value→Shared→Prop} (ht:IsTup s.heap t vs.toArray) (hb:IsTup s.heap b ws.toArray) (hv:vs≠[])
  (h1:ws=[]→Q (.ref t) s) (h2:ws≠[]→Q (.ref s.heap.objs.size) { s with heap:=s.heap.push { cls:=.type "tuple",data:=.seq (vs++ws).toArray } })
  (hsz:vs.length+ws.length≤sizeLine):wpAny (model prog w) A (binaryOp .Add (.ref t) (.ref b)) Q E s:=by
 obtain⟨⟨cls,dd,data,sl⟩,ho,hc,n,hd⟩:=id ht
 obtain⟨⟨cls2,dd2,data2,sl2⟩,ho2,hc2,n2,hd2⟩:=id hb
 simp only at hc hd hc2 hd2
 subst hc hd hc2 hd2
 have e:vs.toArray++ws.toArray=(vs++ws).toArray:=by simp
 by_cases hw:ws=[]
 ·exact concat_meets ⟨_,ho,rfl⟩ ⟨_,ho2,rfl⟩ noFill_tuple_add seq_tuple_add PySem.F.slot_tuple_add PySem.F.entry_tuple_add (PySem.F.args_tuple_add_2 _ _)
   (tuple_addW1 t b vs.toArray ws.toArray n n2 dd dd2 sl sl2 (by simpa using hv) (by simp[hw])) ⟨ho,ho2,h1 hw⟩
 ·refine concat_meets ⟨_,ho,rfl⟩ ⟨_,ho2,rfl⟩ noFill_tuple_add seq_tuple_add PySem.F.slot_tuple_add PySem.F.entry_tuple_add (PySem.F.args_tuple_add_2 _ _)
   (tuple_addW2 t b vs.toArray ws.toArray n n2 dd dd2 sl sl2 (by simpa using hv) (by simpa using hw) (by rw[List.size_toArray,List.size_toArray];exact hsz)) ⟨ho,ho2,?_⟩
  rw[e]
  exact h2 hw
def sIx (n d:Nat):Option Int→Nat
 | none=>d
 | some v=>if v < 0 then (v+(n:Int)).toNat else min v.toNat n
theorem sIx_none (n d:Nat):sIx n d none=d:=rfl
theorem sIx_nat (n d k:Nat):sIx n d (some (k:Int))=min k n:=by
 show (if (k:Int) < 0 then ((k:Int)+(n:Int)).toNat else min (k:Int).toNat n)=min k n
 rw[if_neg (by omega),Int.toNat_natCast]
theorem sIx_le (n d:Nat) (hd:d≤n) (o:Option Int):sIx n d o≤n:=by
 cases o with
 | none=>exact hd
 | some v =>
  show (if v < 0 then (v+(n:Int)).toNat else min v.toNat n)≤n
  by_cases hv:v < 0
  ·rw[if_pos hv];omega
  ·rw[if_neg hv];exact Nat.min_le_right _ _
theorem je2 (v:Int) (n d:Nat):(if v < 0 then max (v+(n:Int)) 0 else min v (n:Int))=((sIx n d (some v):Nat):Int):=by
 show (if v < 0 then max (v+(n:Int)) 0 else min v (n:Int))=(((if v < 0 then (v+(n:Int)).toNat else min v.toNat n):Nat):Int)
 by_cases hv:v < 0
 ·simp only[if_pos hv];omega
 ·simp only[if_neg hv];omega
theorem j9x (lo hi:Option Int) (n:Nat):Builtin.Slice.sliceAdjust lo hi 1 (n:Int)=(((sIx n 0 lo:Nat):Int),((sIx n n hi:Nat):Int)):=by
 have h1:¬ ((1:Int) < 0):=by omega
 unfold Builtin.Slice.sliceAdjust
 simp only[h1,if_false]
 refine Prod.ext ?_ ?_
 ·cases lo with
  | none=>rfl
  | some v=>exact je2 v n 0
 ·cases hi with
  | none=>rfl
  | some v=>exact je2 v n n
theorem j9y (i j:Nat):Builtin.Slice.slicePlaces (i:Int) (j:Int) 1=j-i:=by
 unfold Builtin.Slice.slicePlaces
 have h1:(1:Int) > 0:=by omega
 simp only[h1,if_true,Int.ediv_one]
 split <;> omega
theorem j5g {v:Value}{o:Option Int}{Q:Option Int→Shared→Prop} (p:IsPart v o) (h:Q o s):wpAny (model prog w) A (Builtin.Slice.slicePartIndex v) Q E s:=by
 cases p with
 | none=>exact slicePart_none h
 | int i t=>exact slicePart_int h
theorem sliceApplied_gen {sl:Addr}{vl vu:Value}{lo hi:Option Int}{n:Nat}{Q:Int × Int × Nat→Shared→Prop} (hs:s.heap.IsSliceOf sl vl vu .none) (pl:IsPart vl lo) (pu:IsPart vu hi)
  (h:Q (((sIx n 0 lo:Nat):Int),1,sIx n n hi-sIx n 0 lo) s):wpAny (model prog w) A (Builtin.Slice.sliceApplied (.ref sl) (pure (n:Int))) Q E s:=by
 obtain⟨os,hos,hcs,hds⟩:=id hs
 unfold Builtin.Slice.sliceApplied Builtin.Slice.sliceFields
 refine wpAny_bind (wpAny_bind (wpAny_field hos hds (x:=vl) rfl (wpAny_bind (wpAny_field hos hds (x:=vu) rfl (wpAny_bind (wpAny_field hos hds (x:=.none) rfl (wpAny_pure ?_)))))))
 refine wpAny_bind (slicePart_none ?_)
 show wpAny _ _ (if ((1:Int) == 0)=true then _ else _) _ _ s
 rw[if_neg (by decide)]
 refine wpAny_bind (j5g pl (wpAny_bind (j5g pu (wpAny_bind (wpAny_pure ?_)))))
 show wpAny _ _ (match Builtin.Slice.sliceAdjust lo hi 1 (n:Int) with | (lo,hi)=>pure (lo,(1:Int),Builtin.Slice.slicePlaces lo hi 1)) _ _ s
 rw[j9x lo hi n]
 show wpAny _ _ (pure (((sIx n 0 lo:Nat):Int),(1:Int),Builtin.Slice.slicePlaces ((sIx n 0 lo:Nat):Int) ((sIx n n hi:Nat):Int) 1)) _ _ s
 rw[j9y]
 exact wpAny_pure h
theorem jff (xs:Array Value) (i k:Nat):((List.range k).filterMap fun (m:Nat)=>xs[((i:Int)+(m:Int) * 1).toNat]?).toArray=((xs.toList.drop i).take k).toArray:=by
 have e:(fun (m:Nat)=>xs[((i:Int)+(m:Int) * 1).toNat]?)=fun m=>xs[i+m]?:=by
  funext m
  have:((i:Int)+(m:Int) * 1).toNat=i+m:=by omega
  rw[this]
 rw[e]
 have:=pick_run xs i k
 rw[List.filterMap_map] at this
 have e2:((fun x=>xs[x]?) ∘ fun x=>i+x)=fun m=>xs[i+m]?:=rfl
 rw[e2] at this
 rw[this]
theorem getItem_tuple_cut {t sl:Addr}{items:Array Value}{vl vu:Value}{lo hi:Option Int}{Q:Value→Shared→Prop} (ht:IsTup s.heap t items) (hs:s.heap.IsSliceOf sl vl vu .none) (pl:IsPart vl lo) (pu:IsPart vu hi)
  (hw:¬ (sIx items.size 0 lo=0∧sIx items.size items.size hi=items.size))
  (h:Q (.ref s.heap.objs.size) { s with heap:=s.heap.push { cls:=.type "tuple",data:=.seq ((items.toList.drop (sIx items.size 0 lo)).take (sIx items.size items.size hi-sIx items.size 0 lo)).toArray } })
  (hsz:items.size≤sizeLine):wpAny (model prog w) A (getItem (.ref t) (.ref sl)) Q E s:=by
 have htake:sizeOk (.seq ((items.toList.drop (sIx items.size 0 lo)).take (sIx items.size items.size hi-sIx items.size 0 lo)).toArray):=by
  show ((items.toList.drop (sIx items.size 0 lo)).take (sIx items.size items.size hi-sIx items.size 0 lo)).toArray.size≤sizeLine
  rw[List.size_toArray,List.length_take,List.length_drop,Array.length_toList]
  omega
 have hj:sIx items.size items.size hi≤items.size:=sIx_le _ _ (Nat.le_refl _) hi
 obtain⟨os,hos,hcs,hds⟩:=id hs
 have hTs:s.TypeIs (.ref sl) "slice":=⟨os,hos,hcs⟩
 unfold getItem
 try with_reducible refine wpAny_holding ?_
 first | refine wpAny_bind (wpAny_pure ?_) | skip
 refine wpAny_bind (wpAny_sequenceKey ht.typeIs (by decide) ?_)
 refine wpAny_bind (wpAny_callSpecial?_slot (name:=Str.ofString "__getitem__") ht.typeIs PyProof.Rows.slot_tuple_getitem
  (wpAny_call_entry PyProof.Rows.slot_tuple_getitem ht.typeIs entry_tuple_getitem ?_ (args_tuple_getitem _ _)))
 show wpAny _ _ (Builtin.Tuple.tupleItemsOf (.ref t) >>= _) _ _ s
 refine wpAny_bind (tupleItemsOf_ ht ?_)
 refine wpAny_bind (wpAny_typeOf hTs ?_)
 rw[if_pos (by decide)]
 refine wpAny_bind (sliceApplied_gen hs pl pu ?_)
 have hno:¬ ((((sIx items.size 0 lo:Nat):Int) == 0 && (1:Int) == 1 && (sIx items.size items.size hi-sIx items.size 0 lo) == items.size)=true):=by
  intro q
  rw[Bool.and_eq_true,Bool.and_eq_true] at q
  have q1:((sIx items.size 0 lo:Nat):Int)=0:=eq_of_beq q.1.1
  have q2:sIx items.size items.size hi-sIx items.size 0 lo=items.size:=eq_of_beq q.2
  exact hw ⟨by omega,by omega⟩
 show wpAny _ _ (if (((sIx items.size 0 lo:Nat):Int) == 0 && (1:Int) == 1 && (sIx items.size items.size hi-sIx items.size 0 lo) == items.size)=true then _ else _) _ _ s
 rw[if_neg hno,jff]
 first
  | exact wpAny_bind (m:=Builtin.Tuple.tupleExact _) (wpAny_newObj_type (wpAny_pure ⟨_,rfl,wpAny_pure h⟩) htake)
  | exact wpAny_bind (m:=Builtin.Tuple.tupleExact _) (wpAny_newObj_type (wpAny_bind (wpAny_pure (wpAny_pure ⟨_,rfl,wpAny_pure h⟩))) htake)
  | exact wpAny_bind (wpAny_bind (m:=Builtin.Tuple.tupleExact _) (wpAny_newObj_type (wpAny_pure (wpAny_pure ⟨_,rfl,wpAny_pure h⟩)) htake))
  | exact wpAny_bind (wpAny_bind (m:=Builtin.Tuple.tupleExact _) (wpAny_newObj_type (wpAny_pure ⟨_,rfl,wpAny_pure h⟩) htake))
end
end HT
namespace L2
open PySem PySem.Spec PyProof.Rows
abbrev TO:=St→Hp→(Option Int→Hp→Prop)→Prop
def PO (X:Cx) (e:Option Expr) (t:TO):Prop :=
 ∀ (pins:List (Addr × Obj)) (s:Shared) (σ:St) (H:Hp) (Q:Option Int→Hp→Prop),Inv X pins σ H s→t σ H Q →
  wpAny (model X.prog X.w) X.A (evalPart e X.env) (fun u s'=>∃ o H',Inv X pins σ H' s'∧IsPart u o∧Q o H') X.xe s
def je3:TO:=fun _ H Q=>Q none H
def tPart (t:TE):TO:=fun σ H Q=>t σ H fun x H1=>∃ i,x=.int i∧Q (some i) H1
theorem j9z {ns:List Int}:∀ {us:List Value},Vals (ns.map V.int) us→IntsAre us ns:=by
 induction ns with
 | nil=>intro us r;rw[List.map_nil] at r;cases r;exact .nil
 | cons n ns ih =>
  intro us r
  rw[List.map_cons] at r
  cases r with
  | cons r1 r2 =>
   obtain⟨t,e⟩:=r1
   subst e
   exact .cons n t (ih r2)
section
variable {X:Cx}{e:Expr}{te:TE}{lo hi:Option Expr}{tl th:TO}{pos p2:Pos}
theorem j5h:PO X none je3:=by
 intro pins s σ H Q I h
 rw[evalPart_none]
 exact wpAny_pure ⟨none,H,I,.none,h⟩
theorem j5i (h:PE X e te):PO X (some e) (tPart te):=by
 intro pins s σ H Q I hw
 rw[evalPart_some]
 refine thn (h pins s σ H _ I hw) fun u s1 ⟨x,H1,I1,r1,q1⟩=>?_
 obtain⟨i,rfl,q⟩:=q1
 obtain⟨t,rfl⟩:=r1
 exact⟨some i,H1,I1,.int i t,q⟩
def SlR (X:Cx) (r:V→Option Int→Option Int→Hp→VK→Prop):Prop :=
 ∀ (pins:List (Addr × Obj)) (s:Shared) (σ:St) (H:Hp) (x:V) (v vl vu:Value) (lo hi:Option Int) (sl:Addr) (Q:VK),Inv X pins σ H s→RelV x v→s.heap.IsSliceOf sl vl vu .none→IsPart vl lo→IsPart vu hi→r x lo hi H Q →
  ∃ T id,typeLookup (.type T) "__getitem__"=pure (some (.builtin id))∧s.TypeIs v T∧wpAny (model X.prog X.w) X.A (getItem v (.ref sl)) (EP X pins σ Q) X.xe s
theorem SlR.or {r r':V→Option Int→Option Int→Hp→VK→Prop} (h:SlR X r) (h':SlR X r'):SlR X (fun x lo hi H Q=>r x lo hi H Q∨r' x lo hi H Q):=by
 intro pins s σ H x v vl vu lo hi sl Q I rx hs pl pu q
 rcases q with q | q
 ·exact h pins s σ H x v vl vu lo hi sl Q I rx hs pl pu q
 ·exact h' pins s σ H x v vl vu lo hi sl Q I rx hs pl pu q
def tSl (r:V→Option Int→Option Int→Hp→VK→Prop) (te:TE) (tl th:TO):TE:=fun σ H Q=>te σ H fun x H1=>tl σ H1 fun l H2=>th σ H2 fun u H3=>r x l u H3 Q
theorem j31 {r:V→Option Int→Option Int→Hp→VK→Prop} (hr:SlR X r) (he:PE X e te) (hl:PO X lo tl) (hu:PO X hi th):PE X (.Subscript e (.Slice lo hi none p2) pos) (tSl r te tl th):=by
 intro pins s σ H Q I h
 refine Subscript_ (thn (he pins s σ H _ I h) fun v s1 ⟨x,H1,I1,r1,q1⟩=>?_)
 refine wpAny_Slice (thn (hl pins s1 σ H1 _ I1 q1) fun vl s2 ⟨l,H2,I2,pl,q2⟩=>thn (hu pins s2 σ H2 _ I2 q2) fun vu s3 ⟨u,H3,I3,pu,q3⟩=>?_)
 rw[evalPart_none]
 refine wpAny_pure ?_
 have I4:Inv X pins σ H3 { s3 with heap:=s3.heap.push { cls:=.type "slice",data:=.fields #[vl,vu,.none] } }:=I3.kept (t':=s3.toks) fun b ob q=>Heap.get?_push_of_some _ q
 obtain⟨T,id,hT,ht,hg⟩:=hr pins { s3 with heap:=s3.heap.push { cls:=.type "slice",data:=.fields #[vl,vu,.none] } } σ H3 x v vl vu l u s3.heap.objs.size Q I4 r1 (Heap.IsSliceOf.new ..) pl pu q3
 show wpAny (model X.prog X.w) X.A (subscriptTail e (.Slice lo hi none p2) v (.ref s3.heap.objs.size)) (EP X pins σ Q) X.xe { s3 with heap:=s3.heap.push { cls:=.type "slice",data:=.fields #[vl,vu,.none] } }
 exact tail_any (ops:=[.ref s3.heap.objs.size,v]) ht hT hg (by with_unfolding_all rfl)
def cutV (xs:List V) (lo hi:Option Int):List V:=(xs.drop (HT.sIx xs.length 0 lo)).take (HT.sIx xs.length xs.length hi-HT.sIx xs.length 0 lo)
theorem j42 (xs:List V) (lo hi:Option Int):(cutV xs lo hi).length≤xs.length:=by
 unfold cutV
 rw[List.length_take,List.length_drop]
 omega
def rSlT (K:PySem.W.Frag):V→Option Int→Option Int→Hp→VK→Prop:=fun x lo hi H Q=>∃ a xs,x=.ref a∧SqT K H a xs ∧
 ¬ (HT.sIx xs.length 0 lo=0∧HT.sIx xs.length xs.length hi=xs.length)∧∀ p,H p=none→Q (.ref p) (upd H p (.tup (cutV xs lo hi)))
theorem sl_tup:SlR X (rSlT X.K):=by
 intro pins s σ H x v vl vu lo hi sl Q I rx hs pl pu h
 obtain⟨a,xs,rfl,hx,hw,q⟩:=h
 cases rx
 obtain⟨its,r,ht,hz⟩:=I.tuple hx
 have hlen:its.toArray.size=xs.length:=by rw[List.size_toArray];exact r.length.symm
 refine⟨"tuple",_,PyProof.Rows.slot_tuple_getitem.lookup,ht.typeIs,?_⟩
 refine HT.getItem_tuple_cut ht hs pl pu (by rw[hlen];exact hw) ?_ (by rw[hlen];exact hz)
 rw[hlen]
 refine⟨.ref s.heap.objs.size,_,I.laid (t':=s.toks) (o:=.tup (cutV xs lo hi)) (fun b ob q=>Heap.get?_push_of_some _ q) (Nat.le_refl _) ?_,rfl,q _ (I.hok.fresh (Nat.le_refl _))⟩
 exact⟨Nat.le_trans (j42 xs lo hi) hz,_,(r.drop (HT.sIx xs.length 0 lo)).take (HT.sIx xs.length xs.length hi-HT.sIx xs.length 0 lo),TupN.new _ _⟩
end
def ixN (n:Nat) (i:Int):Option Nat:=if 0≤i then (if i < n then some i.toNat else none) else if -(n:Int)≤i then some (i+n).toNat else none
def atI {α:Type} (xs:List α) (i:Int):Option α:=(ixN xs.length i).bind fun j=>xs[j]?
theorem jhz {n:Nat}{i:Int}{j:Nat} (h:ixN n i=some j):seqIndex? i n=some j∧j < n∧-(n:Int)≤i∧i < n:=by
 unfold ixN at h
 by_cases h0:0≤i
 ·rw[if_pos h0] at h
  by_cases h1:i < n
  ·rw[if_pos h1] at h
   have e:i.toNat=j:=Option.some.inj h
   exact⟨by rw[seqIndex_of h0 h1,e],by omega,by omega,h1⟩
  ·rw[if_neg h1] at h;cases h
 ·rw[if_neg h0] at h
  by_cases h1:-(n:Int)≤i
  ·rw[if_pos h1] at h
   have e:(i+n).toNat=j:=Option.some.inj h
   exact⟨by rw[seqIndex_neg (by omega) h1,e],by omega,h1,by omega⟩
  ·rw[if_neg h1] at h;cases h
theorem ja0 {α:Type}{xs:List α}{i:Int}{v:α} (h:atI xs i=some v):∃ j,seqIndex? i xs.length=some j∧xs[j]?=some v∧j < xs.length∧-(xs.length:Int)≤i∧i < xs.length:=by
 unfold atI at h
 cases e:ixN xs.length i with
 | none=>rw[e] at h;cases h
 | some j =>
  rw[e] at h
  obtain⟨h1,h2,h3,h4⟩:=jhz e
  exact⟨j,h1,h,h2,h3,h4⟩
theorem je4 {α:Type}{xs:List α}{j:Nat}{v:α} (h:xs[j]?=some v):atI xs (j:Int)=some v:=by
 have hj:j < xs.length:=(List.getElem?_eq_some_iff.mp h).1
 have e:ixN xs.length (j:Int)=some j:=by
  unfold ixN
  rw[if_pos (by omega),if_pos (by omega)];simp
 unfold atI;rw[e];exact h
def ji0 (b:Expr):Prop:=∀ o i,subscripted b false o i=operate [o,i] (getItem o i)
def IxR (X:Cx) (r:R2):Prop :=
 ∀ (value slice:Expr) (pins:List (Addr × Obj)) (s:Shared) (σ:St) (H:Hp) (x y:V) (v u:Value) (Q:VK),Inv X pins σ H s→RelV x v→RelV y u→r x y H Q →
  subscripted slice false v u=operate [v,u] (getItem v u)→wpAny (model X.prog X.w) X.A (subscriptTail value slice v u) (EP X pins σ Q) X.xe s
def MtR (X:Cx) (id:String) (r:V→List V→Hp→VK→Prop):Prop :=
 ∀ (pins:List (Addr × Obj)) (s:Shared) (σ:St) (H:Hp) (x:V) (xs:List V) (v:Value) (us:List Value) (Q:VK),Inv X pins σ H s→RelV x v→Vals xs us→r x xs H Q →
  wpAny (model X.prog X.w) X.A (call (.builtin id) (v :: us)) (EP X pins σ Q) X.xe s
section
variable {X:Cx}{a b:Expr}{ta tb:TE}{pos:Pos}
theorem IxR.or {r r':R2} (h:IxR X r) (h':IxR X r'):IxR X (fun x y H Q=>r x y H Q∨r' x y H Q):=by
 intro value slice pins s σ H x y v u Q I rx ry q hs
 rcases q with q | q
 ·exact h value slice pins s σ H x y v u Q I rx ry q hs
 ·exact h' value slice pins s σ H x y v u Q I rx ry q hs
theorem MtR.or {id:String}{r r':V→List V→Hp→VK→Prop} (h:MtR X id r) (h':MtR X id r'):MtR X id (fun x xs H Q=>r x xs H Q∨r' x xs H Q):=by
 intro pins s σ H x xs v us Q I rx rs q
 rcases q with q | q
 ·exact h pins s σ H x xs v us Q I rx rs q
 ·exact h' pins s σ H x xs v us Q I rx rs q
theorem j4i {r:R2} (hr:IxR X r) (ha:PE X a ta) (hb:PE X b tb) (hs:ji0 b):PE X (.Subscript a b pos) (tOp r ta tb):=by
 intro pins s σ H Q I h
 exact Subscript_ (binT ha hb I h fun v u s2 x y H2 I2 rx ry q=>hr a b pins s2 σ H2 x y v u Q I2 rx ry q (hs _ _))
def rIxL (K:PySem.W.Frag):R2:=fun x y H Q=>∃ p xs i v,x=.ref p∧y=.int i∧SqL K H p xs∧atI xs i=some v∧Q v H
def rIxT (K:PySem.W.Frag):R2:=fun x y H Q=>∃ p xs i v,x=.ref p∧y=.int i∧SqT K H p xs∧atI xs i=some v∧Q v H
def rIxS:R2:=fun x y H Q=>∃ z i c,x=.str z∧y=.int i∧z.length≤sizeLine∧atI z.cps.toList i=some c∧Q (.str ⟨#[c]⟩) H
theorem ji1:IxR X (rIxL X.K):=by
 intro value slice pins s σ H x y v u Q I rx ry h hs
 obtain⟨p,xs,i,z,rfl,rfl,hq,he,q⟩:=h
 cases rx
 obtain⟨t,rfl⟩:=ry
 obtain⟨its,r,pl,hz⟩:=I.list hq
 obtain⟨j,h1,h2,h3,h4,h5⟩:=ja0 he
 obtain⟨w,ew,rw'⟩:=r.get h2
 have hl:=r.length
 have hn:=j8t
 have fin:EP X pins σ Q w s:=⟨z,H,I,rw',q⟩
 by_cases h0:0≤i
 ·have hj:i.toNat=j:=by
   rw[seqIndex_of h0 h5] at h1
   exact Option.some.inj h1
  exact item_listR pl.isList h0 (by omega) (by rw[hj];simpa using ew) fin hs
 ·have hj:(i+(its.toArray.size:Int)).toNat=j:=by
   rw[seqIndex_neg (by omega) h4] at h1
   rw[List.size_toArray,← hl]
   exact Option.some.inj h1
  exact subscriptTail_builtinR (x:=w) pl.isList.typeIs slot_list_getitem.lookup
   (wpAny_getItem_list_neg (Q:=fun r s'=>r=w∧EP X pins σ Q r s') pl.isList (by omega) (by rw[List.size_toArray] <;> omega) (by omega) (by rw[hj];simpa using ew) ⟨rfl,fin⟩) hs
theorem ix_tup:IxR X (rIxT X.K):=by
 intro value slice pins s σ H x y v u Q I rx ry h hs
 obtain⟨p,xs,i,z,rfl,rfl,hq,he,q⟩:=h
 cases rx
 obtain⟨t,rfl⟩:=ry
 obtain⟨its,r,pl,hz⟩:=I.tuple hq
 obtain⟨j,h1,h2,h3,h4,h5⟩:=ja0 he
 obtain⟨w,ew,rw'⟩:=r.get h2
 have hl:=r.length
 have hn:=j8t
 have fin:EP X pins σ Q w s:=⟨z,H,I,rw',q⟩
 exact subscriptTail_builtinR (x:=w) pl.typeIs slot_tuple_getitem.lookup
  (getItem_tuple (j:=j) (Q:=fun r s'=>r=w∧EP X pins σ Q r s') pl (by omega) (by omega) (by rw[List.size_toArray,← hl];exact h1) (by simpa using ew) ⟨rfl,fin⟩) hs
theorem ix_str:IxR X rIxS:=by
 intro value slice pins s σ H x y v u Q I rx ry h hs
 obtain⟨z,i,c,rfl,rfl,hz,he,q⟩:=h
 obtain⟨t,rfl⟩:=rx
 obtain⟨t',rfl⟩:=ry
 obtain⟨j,h1,h2,h3,h4,h5⟩:=ja0 he
 have hl:z.cps.toList.length=z.length:=by simp[Str.length]
 rw[hl] at h1 h4 h5
 have hn:=j8t
 exact tail_any (typeIs_str s z t) slot_str_getitem.lookup (getItem_str (c:=c) (by
  have e1:decide (i < -(2 ^ 63:Int))=false:=decide_eq_false (by omega)
  have e2:decide (i≥2 ^ 63)=false:=decide_eq_false (by omega)
  rw[e1,e2,Bool.or_false]) (by rw[h1];simpa using h2) ⟨.str ⟨#[c]⟩,H,I.tok _,⟨_,rfl⟩,q⟩) hs
def rIx (K:PySem.W.Frag):R2:=fun x y H Q=>rIxL K x y H Q∨rIxT K x y H Q∨rIxS x y H Q
theorem ix_seq:IxR X (rIx X.K):=ji1.or (ix_tup.or ix_str)
theorem Inv.lst {pins:List (Addr × Obj)}{σ:St}{H:Hp}{s:Shared}{p:Addr}{xs:List V} (I:Inv X pins σ H s) (h:H p=some (.lst xs)) :
  ∃ (its:List Value) (n:Nat),Vals xs its∧s.heap.get? p=some { cls:=.type "list",data:=.seq its.toArray n }∧xs.length≤sizeLine:=by
 obtain⟨z,its,n,r,e⟩:=I.hok p _ h
 exact⟨its,n,r,e,z⟩
theorem j6j (lo hi:Option Int) (n:Nat):(sliceBounds lo hi none n).1=((HT.sIx n 0 lo:Nat):Int)∧(sliceBounds lo hi none n).2.1=((HT.sIx n n hi:Nat):Int)∧(sliceBounds lo hi none n).2.2=1:=by
 refine⟨?_,?_,rfl⟩
 ·cases lo with
  | none=>simp[sliceBounds,HT.sIx]
  | some i =>
   simp only[sliceBounds,HT.sIx,Option.getD_none,show (1:Int) > 0 by decide,if_true]
   by_cases h:i < 0
   ·simp only[h,if_true] <;> omega
   ·simp only[h,if_false] <;> omega
 ·cases hi with
  | none=>simp[sliceBounds,HT.sIx]
  | some i =>
   simp only[sliceBounds,HT.sIx,Option.getD_none,show (1:Int) > 0 by decide,if_true]
   by_cases h:i < 0
   ·simp only[h,if_true] <;> omega
   ·simp only[h,if_false] <;> omega
theorem j5j (its:List Value) (lo hi:Option Int):slicePick its.toArray lo hi none=((its.drop (HT.sIx its.length 0 lo)).take (HT.sIx its.length its.length hi-HT.sIx its.length 0 lo)).toArray:=by
 obtain⟨h1,h2,h3⟩:=j6j lo hi its.toArray.size
 unfold slicePick
 rw[h1,h2,h3]
 simp only[sliceRange_one,pick_run,List.size_toArray] <;> rfl
def rSlL (K:PySem.W.Frag):V→Option Int→Option Int→Hp→VK→Prop:=fun x lo hi H Q=>∃ a xs,x=.ref a∧SqL K H a xs∧∀ p,H p=none→Q (.ref p) (upd H p (.lst (cutV xs lo hi)))
theorem jln:SlR X (rSlL X.K):=by
 intro pins s σ H x v vl vu lo hi sl Q I rx hs pl pu h
 obtain⟨a,xs,rfl,hx,q⟩:=h
 cases rx
 obtain⟨its,r,ht,hz⟩:=I.list hx
 have hlen:=r.length
 refine⟨"list",_,slot_list_getitem.lookup,ht.isList.typeIs,?_⟩
 refine wpAny_getItem_list_slice ht.isList hs pl pu .none (by simp) ?_ (by rw[List.size_toArray] <;> omega)
 rw[j5j,← hlen]
 refine⟨.ref s.heap.objs.size,_,I.laid (t':=s.toks) (o:=.lst (cutV xs lo hi)) (fun b ob q=>Heap.get?_push_of_some _ q) (Nat.le_refl _) ?_,rfl,q _ (I.hok.fresh (Nat.le_refl _))⟩
 exact⟨Nat.le_trans (j42 xs lo hi) hz,_,0,(r.drop (HT.sIx xs.length 0 lo)).take (HT.sIx xs.length xs.length hi-HT.sIx xs.length 0 lo),Heap.get?_push_size _ rfl⟩
def j5k:V→Bool
 | .non=>true
 | .bl _=>true
 | .int _=>true
 | .str _=>true
 | _=>false
def eqV:V→V→Bool
 | .non,.non=>true
 | .bl a,.bl b=>a == b
 | .bl a,.int b=>(if a then 1 else 0) == b
 | .int a,.bl b=>a == (if b then 1 else 0)
 | .int a,.int b=>a == b
 | .str a,.str b=>a == b
 | _,_=>false
theorem eqAt_V {A:Around}{s:Shared}{y x:V}{u v:Value} (ry:RelV y u) (rx:RelV x v) (fy:j5k y=true) (fx:j5k x=true):SeqAt.EqAt A s u v (eqV y x):=by
 cases y with
 | non =>
  cases ry
  cases x with
  | non=>cases rx;exact SeqAt.EqAt.same _
  | bl b=>cases rx;exact SeqAt.EqAt.none_bool b
  | int b=>obtain⟨t,rfl⟩:=rx;exact SeqAt.EqAt.none_int b t
  | str b=>obtain⟨t,rfl⟩:=rx;exact SeqAt.EqAt.none_str b t
  | _=>exact absurd (show false=true from fx) Bool.false_ne_true
 | bl a =>
  cases ry
  cases x with
  | non=>cases rx;exact SeqAt.EqAt.bool_none a
  | bl b=>cases rx;exact SeqAt.EqAt.bool_bool a b
  | int b=>obtain⟨t,rfl⟩:=rx;exact SeqAt.EqAt.bool_int a b t
  | str b=>obtain⟨t,rfl⟩:=rx;exact SeqAt.EqAt.bool_str a b t
  | _=>exact absurd (show false=true from fx) Bool.false_ne_true
 | int a =>
  obtain⟨t',rfl⟩:=ry
  cases x with
  | non=>cases rx;exact SeqAt.EqAt.int_none a t'
  | bl b=>cases rx;exact SeqAt.EqAt.int_bool a t' b
  | int b=>obtain⟨t,rfl⟩:=rx;exact SeqAt.EqAt.int_int a t' b t
  | str b=>obtain⟨t,rfl⟩:=rx;exact SeqAt.EqAt.int_str a t' b t
  | _=>exact absurd (show false=true from fx) Bool.false_ne_true
 | str a =>
  obtain⟨t',rfl⟩:=ry
  cases x with
  | non=>cases rx;exact SeqAt.EqAt.str_none a t'
  | bl b=>cases rx;exact SeqAt.EqAt.str_bool a t' b
  | int b=>obtain⟨t,rfl⟩:=rx;exact SeqAt.EqAt.str_int a t' b t
  | str b=>obtain⟨t,rfl⟩:=rx;exact SeqAt.EqAt.str_str a t' b t
  | _=>exact absurd (show false=true from fx) Bool.false_ne_true
 | _=>exact absurd (show false=true from fy) Bool.false_ne_true
def eqU (x:V) (u:Value):Bool:=match u with
 | .none=>eqV .non x
 | .bool b=>eqV (.bl b) x
 | .int i _=>eqV (.int i) x
 | .str z _=>eqV (.str z) x
 | _=>false
theorem ji3 {x y:V}{u:Value} (r:RelV y u) (f:j5k y=true):eqU x u=eqV y x:=by
 cases y with
 | non=>cases r;rfl
 | bl b=>cases r;rfl
 | int i=>obtain⟨t,rfl⟩:=r;rfl
 | str z=>obtain⟨t,rfl⟩:=r;rfl
 | _=>exact absurd (show false=true from f) Bool.false_ne_true
theorem j5l {x:V}:∀ {xs:List V}{us:List Value},Vals xs us→xs.all j5k=true→us.any (eqU x)=xs.any fun y=>eqV y x
 | _,_,.nil,_=>rfl
 | y :: xs,u :: us,.cons r t,f=>by
  rw[List.all_cons,Bool.and_eq_true] at f
  rw[List.any_cons,List.any_cons,ji3 r f.1,j5l t f.2]
theorem j32 {A:Around}{s:Shared}{x:V}{v:Value} (rx:RelV x v) (fx:j5k x=true):∀ {xs:List V}{us:List Value},Vals xs us→xs.all j5k=true→∀ u∈us,SeqAt.EqAt A s u v (eqU x u)
 | _,_,.nil,_=>fun u hu=>by cases hu
 | y :: xs,u :: us,.cons r t,f=>fun u' hu=>by
  rw[List.all_cons,Bool.and_eq_true] at f
  rcases List.mem_cons.mp hu with rfl | hu
  ·rw[ji3 r f.1];exact eqAt_V r rx f.1 fx
  ·exact j32 rx fx t f.2 u' hu
def inV (x:V) (xs:List V):Bool:=xs.any fun y=>eqV y x
def rIn (K:PySem.W.Frag) (neg:Bool):R2:=fun x y H Q=>∃ p xs,y=.ref p∧(SqL K H p xs∨SqT K H p xs)∧j5k x=true∧xs.all j5k=true∧Q (.bl (if neg then !inV x xs else inV x xs)) H
theorem jcq:OpR X (compareOp .In) (rIn X.K false):=by
 intro pins s σ H x y v u Q I rx ry h
 obtain⟨p,xs,rfl,hq,fx,fs,q⟩:=h
 cases ry
 rcases hq with hq | hq
 ·obtain⟨its,r,pl,hz⟩:=I.list hq
  refine SeqAt.in_listAt (eqU x) pl.isList (fun w hw=>j32 rx fx r fs w (by simpa using hw)) ⟨.bl _,H,I,rfl,?_⟩
  rw[show its.toArray.any (eqU x)=its.any (eqU x) by simp,j5l r fs]
  exact q
 ·obtain⟨its,r,pl,hz⟩:=I.tuple hq
  refine SeqAt.in_tupleAt (eqU x) pl (fun w hw=>j32 rx fx r fs w (by simpa using hw)) ⟨.bl _,H,I,rfl,?_⟩
  rw[show its.toArray.any (eqU x)=its.any (eqU x) by simp,j5l r fs]
  exact q
theorem j6k:OpR X (compareOp .NotIn) (rIn X.K true):=by
 intro pins s σ H x y v u Q I rx ry h
 obtain⟨p,xs,rfl,hq,fx,fs,q⟩:=h
 cases ry
 rcases hq with hq | hq
 ·obtain⟨its,r,pl,hz⟩:=I.list hq
  refine SeqAt.notIn_listAt (eqU x) pl.isList (fun w hw=>j32 rx fx r fs w (by simpa using hw)) ⟨.bl _,H,I,rfl,?_⟩
  rw[show its.toArray.any (eqU x)=its.any (eqU x) by simp,j5l r fs]
  exact q
 ·obtain⟨its,r,pl,hz⟩:=I.tuple hq
  refine SeqAt.notIn_tupleAt (eqU x) pl (fun w hw=>j32 rx fx r fs w (by simpa using hw)) ⟨.bl _,H,I,rfl,?_⟩
  rw[show its.toArray.any (eqU x)=its.any (eqU x) by simp,j5l r fs]
  exact q
theorem j6l:CallR X (.builtin "len") (fun xs H Q=>∃ z,xs=[.str z]∧z.length≤sizeLine∧Q (.int z.length) H):=by
 intro pins s σ H xs us Q I r h
 obtain⟨z,rfl,hz,q⟩:=h
 obtain⟨u,rfl,t,rfl⟩:=j5c r
 have hn:=j8t
 exact len_str (by omega) ⟨.int z.length,H,I.tok _,⟨_,rfl⟩,q⟩
theorem CallR.or {f:Value}{r r':List V→Hp→VK→Prop} (h:CallR X f r) (h':CallR X f r'):CallR X f (fun xs H Q=>r xs H Q∨r' xs H Q):=by
 intro pins s σ H xs us Q I rs q
 rcases q with q | q
 ·exact h pins s σ H xs us Q I rs q
 ·exact h' pins s σ H xs us Q I rs q
theorem j6m:CallR X (.type "list") (fun xs H Q=>∃ p ys,xs=[.ref p]∧(SqL X.K H p ys∨SqT X.K H p ys)∧∀ l,H l=none→Q (.ref l) (upd H l (.lst ys))):=by
 intro pins s σ H xs us Q I r h
 obtain⟨p,ys,rfl,hq,q⟩:=h
 obtain⟨u,rfl,rx⟩:=j5c r
 cases rx
 have fin:∀ (its:List Value),Vals ys its→ys.length≤sizeLine→∀ (h':Heap) (c':Nat),(∀ b o',s.heap.get? b=some o'→h'.get? b=some o') →
   h'.get? s.heap.objs.size=some { cls:=.type "list",dict:=none,data:=.seq its.toArray c',slots:=#[] }→EP X pins σ Q (.ref s.heap.objs.size) { s with heap:=h' }:=fun its r' hz h' c' kp e =>
  ⟨.ref s.heap.objs.size,_,I.laid (t':=s.toks) kp (Nat.le_refl _) (show ObjOk X.prog X.w _ h' _ (.lst ys) from⟨hz,its,c',r',e⟩),rfl,q _ (I.hok.fresh (Nat.le_refl _))⟩
 rcases hq with hq | hq
 ·obtain⟨its,r',pl,hz⟩:=I.list hq
  have hlen:=r'.length
  obtain⟨o,ho,hc,n,hd⟩:=pl.isList
  exact call_list_seq p (.inl rfl) ho hc hd (fun h' c' kp e=>fin its r' hz h' c' kp e) (by simp only[List.size_toArray] <;> omega)
 ·obtain⟨its,r',pl,hz⟩:=I.tuple hq
  have hlen:=r'.length
  obtain⟨o,ho,hc,n,hd⟩:=pl
  exact call_list_seq p (.inr rfl) ho hc hd (fun h' c' kp e=>fin its r' hz h' c' kp e) (by simp only[List.size_toArray] <;> omega)
theorem j5m:CallR X (.type "tuple") (fun xs H Q=>∃ p ys,xs=[.ref p]∧((SqL X.K H p ys∧∀ l,H l=none→Q (.ref l) (upd H l (.tup ys)))∨(SqT X.K H p ys∧Q (.ref p) H))):=by
 intro pins s σ H xs us Q I r h
 obtain⟨p,ys,rfl,h⟩:=h
 obtain⟨u,rfl,rx⟩:=j5c r
 cases rx
 rcases h with⟨hq,q⟩ | ⟨hq,q⟩
 ·obtain⟨its,r',pl,hz⟩:=I.list hq
  have hlen:=r'.length
  refine call_tuple_list pl.isList (fun h' kp=>?_) (by simp only[List.size_toArray] <;> omega)
  have I1:Inv X pins σ H { s with heap:=h' }:=I.kept (t':=s.toks) kp
  have I2:Inv X pins σ (upd H h'.objs.size (.tup ys)) { s with heap:=h'.push { cls:=.type "tuple",data:=.seq its.toArray } } :=
   I1.laid (t':=s.toks) (fun b o e=>Heap.get?_push_of_some _ e) (Nat.le_refl _) (show ObjOk X.prog X.w _ _ _ (.tup ys) from⟨hz,its,r',TupN.new _ _⟩)
  exact⟨.ref h'.objs.size,_,I2,rfl,q _ (I1.hok.fresh (Nat.le_refl _))⟩
 ·obtain⟨its,r',pl,hz⟩:=I.tuple hq
  exact call_tuple_same pl ⟨.ref p,H,I,rfl,q⟩
def tyV (K:PySem.W.Frag) (T:String) (x:V) (H:Hp):Prop:=match x with
 | .str _=>T="str"
 | .int _=>T="int"
 | .ref p=>(T="list"∧∃ xs,SqL K H p xs)∨(T="tuple"∧∃ o,K.lookup p=some o∧o.cls=.type "tuple"∧o.dict=none) ∨
   (T="dict"∧((∃ kvs,H p=some (.dK kvs))∨∃ kvs,H p=some (.dT kvs)))∨(T="set"∧∃ S n,H p=some (.set S n))
 | _=>False
theorem ji4 {pins:List (Addr × Obj)}{σ:St}{H:Hp}{s:Shared}{T:String}{x:V}{v:Value} (I:Inv X pins σ H s) (r:RelV x v) (ty:tyV X.K T x H) :
  s.TypeIs v T∧∀ a,v=.ref a→∃ ob,s.heap.get? a=some ob∧ob.dict=none:=by
 cases x with
 | str z =>
  obtain⟨t,rfl⟩:=r
  cases (show T="str" from ty)
  exact⟨typeIs_str s z t,fun _ e=>nomatch e⟩
 | int i =>
  obtain⟨t,rfl⟩:=r
  cases (show T="int" from ty)
  exact⟨typeIs_int s i t,fun _ e=>nomatch e⟩
 | ref p =>
  cases r
  rcases ty with⟨rfl,xs,hq⟩ | ⟨rfl,o,hk,hc,hd⟩ | ⟨rfl,hk⟩ | ⟨rfl,S,n,hk⟩
  ·obtain⟨its,_,pl,_⟩:=I.list hq
   refine⟨pl.isList.typeIs,fun a e=>?_⟩
   cases e
   obtain⟨o,n,e,c,hd,_⟩:=pl
   exact⟨o,e,hd⟩
  ·refine⟨⟨o,I.kIn p o hk,hc⟩,fun a e=>?_⟩
   cases e
   exact⟨o,I.kIn _ o hk,hd⟩
  ·have z:∃ o,s.heap.get? p=some o∧o.ExactDict:=by
    rcases hk with⟨kvs,hk⟩ | ⟨kvs,hk⟩
    ·obtain⟨_,_,_,_,o,_,_,e,ex,_⟩:=I.hok p _ hk
     exact⟨o,e,ex⟩
    ·obtain⟨_,_,_,_,o,_,_,e,ex,_⟩:=I.hok p _ hk
     exact⟨o,e,ex⟩
   obtain⟨o,e,ex⟩:=z
   refine⟨⟨o,e,ex.1⟩,fun a e2=>?_⟩
   cases e2
   exact⟨o,e,ex.2.1⟩
  ·obtain⟨o,_,_,_,e,ex,_⟩:=I.hok p _ hk
   refine⟨⟨o,e,ex.1⟩,fun a e2=>?_⟩
   cases e2
   exact⟨o,e,ex.2.1⟩
 | _=>exact False.elim ty
def tBM0 (K:PySem.W.Frag) (T:String) (r:V→List V→Hp→VK→Prop) (to:TE):TE:=fun σ H Q=>to σ H fun x H1=>tyV K T x H1∧r x [] H1 Q
def tBM (K:PySem.W.Frag) (T:String) (r:V→List V→Hp→VK→Prop) (to:TE) (t:TA):TE:=fun σ H Q=>to σ H fun x H1=>tyV K T x H1∧t σ H1 fun xs H2=>r x xs H2 Q
variable {o e:Expr}{es:List Expr}{to:TE}{t:TA}{name:Str}{apos cpos:Pos}{T id:String}{r:V→List V→Hp→VK→Prop}
theorem pe_bm0 (pa:PlainAttrs T) (slot:Slot T name id) (hty:typeOf (.builtin id)=pure (.type "method_descriptor")) (hm:MtR X id r) (ho:PE X o to)
  (hbase:attributeBase o name X.env (eval o X.env)=eval o X.env:=by rfl) (hline:(apos.endLine == cpos.line)=true:=by rfl):PE X (.Call (.Attribute o name apos) [] [] cpos) (tBM0 X.K T r to):=by
 intro pins s σ H Q I h
 refine wpAny_Call_method0_late hbase hline (thn (ho pins s σ H _ I h) fun v s1 ⟨x,H1,I1,r1,ty,q1⟩=>?_)
 obtain⟨h1,h2⟩:=ji4 I1 r1 ty
 exact⟨T,id,pa,slot,hty,h1,h2,Calls.callWith_builtin rfl (PySem.evalArgs_none (hm pins s1 σ H1 x [] v [] Q I1 r1 .nil q1))⟩
theorem jlp (pa:PlainAttrs T) (slot:Slot T name id) (hty:typeOf (.builtin id)=pure (.type "method_descriptor")) (hm:MtR X id r) (ho:PE X o to) (ha:PA X (e :: es) t)
  (hbase:attributeBase o name X.env (eval o X.env)=eval o X.env:=by rfl)
  (hfew:((backTo cpos (starEach (e :: es) X.env)).all (fun x=>!x.1) && (backToKw cpos (keywordEach [] X.env)).all (fun x=>x.1.isSome)
   && decide ((e :: es).length+([]:List Keyword).length+(if ([]:List Keyword).isEmpty then 0 else 1) < 30))=true:=by rfl)
  (hline:(apos.endLine == cpos.line)=true:=by rfl) (hs:starEach (e :: es) X.env=(false,eval e X.env) :: starEach es X.env:=by rfl) (hplain:(backTo cpos (starEach es X.env)).any (·.1)=false:=by rfl) :
  PE X (.Call (.Attribute o name apos) (e :: es) [] cpos) (tBM X.K T r to t):=by
 intro pins s σ H Q I h
 refine wpAny_Call_method_late hbase hfew hline rfl (thn (ho pins s σ H _ I h) fun v s1 ⟨x,H1,I1,r1,ty,q1⟩=>?_)
 obtain⟨h1,h2⟩:=ji4 I1 r1 ty
 refine⟨T,id,pa,slot,hty,h1,h2,?_⟩
 have hA:=ha cpos pins s1 σ H1 _ I1 q1
 rw[hs] at hA ⊢
 refine Calls.callWith_builtin (by show (false || (backTo cpos (starEach es X.env)).any (·.1))=false;rw[hplain] <;> rfl) (Calls.evalArgs_plain ?_)
 exact thn hA fun us s2 ⟨vs,H2,I2,r2,q2⟩=>hm pins s2 σ H2 x vs v us Q I2 r1 r2 q2
end
def MtM (X:Cx) (id:String) (r:V→List V→Hp→VK→Prop):Prop :=
 ∀ (pins:List (Addr × Obj)) (s:Shared) (σ:St) (H:Hp) (x:V) (xs:List V) (v:Value) (us:List Value) (Q:VK),Inv X pins σ H s→RelV x v→Vals xs us→r x xs H Q →
  wpAny (model X.prog X.w) X.A (call (.builtin id) (v :: us)) (EP X pins σ Q) X.xe s
theorem Vals.one:∀ {x:V}{us:List Value},Vals [x] us→∃ u,us=[u]∧RelV x u
 | _,_,.cons r .nil=>⟨_,rfl,r⟩
theorem Vals.two:∀ {x y:V}{us:List Value},Vals [x,y] us→∃ u v,us=[u,v]∧RelV x u∧RelV y v
 | _,_,_,.cons r (.cons q .nil)=>⟨_,_,rfl,r,q⟩
theorem Vals.zero:∀ {us:List Value},Vals [] us→us=[]
 | _,.nil=>rfl
theorem Vals.dropLast {xs:List V}{us:List Value} (h:Vals xs us):Vals xs.dropLast us.dropLast:=by
 induction h with
 | nil=>exact .nil
 | cons r t ih =>
  cases t with
  | nil=>exact .nil
  | cons q t'=>exact .cons r ih
theorem Vals.reverse {xs:List V}{us:List Value} (h:Vals xs us):Vals xs.reverse us.reverse:=by
 induction h with
 | nil=>exact .nil
 | cons r t ih=>rw[List.reverse_cons,List.reverse_cons];exact Vals.append ih (.cons r .nil)
section
variable {X:Cx}{pins:List (Addr × Obj)}{σ:St}{H:Hp}{s:Shared}{l b:Addr}{xs ys zs:List V}
theorem Inv.lset {its its':List Value}{n:Nat}{f:Array Value→Array Value}{t':Nat} (I:Inv X pins σ H s) (hH:H l=some (.lst xs))
  (e:s.heap.get? l=some { cls:=.type "list",data:=.seq its.toArray n }) (hf:f its.toArray=its'.toArray) (hv:Vals ys its') (hz:ys.length≤sizeLine) :
  Inv X pins σ (upd H l (.lst ys)) { s with heap:=s.heap.update l (Obj.mapSeq f),toks:=t' }:=by
 have q:=PySem.IsL.update e f
 rw[hf] at q
 refine I.write (x:=l) (e:=l) (by rw[hH];exact trivial) (.inl rfl) (fun b' u hb hu=>(Heap.get?_update_other s.heap (Obj.mapSeq f) (Ne.symm hb)).trans hu) ⟨_,q⟩ ?_
 exact⟨hz,its',_,hv,q⟩
theorem Inv.lnew {its:List Value}{t':Nat} (I:Inv X pins σ H s) (hv:Vals ys its) (hz:ys.length≤sizeLine) :
  Inv X pins σ (upd H s.heap.objs.size (.lst ys)) { s with heap:=s.heap.push { cls:=.type "list",data:=.seq its.toArray },toks:=t' } :=
 I.laid (fun _ _ q=>Heap.get?_push_of_some _ q) (Nat.le_refl _) ⟨hz,its,0,hv,Heap.get?_push_size _ rfl⟩
theorem Inv.fresh (I:Inv X pins σ H s):H s.heap.objs.size=none:=I.hok.fresh (Nat.le_refl _)
theorem Inv.lstM (I:Inv X pins σ H s) (hH:H l=some (.lst xs)):xs.length≤sizeLine∧∃ (its:List Value) (n:Nat),Vals xs its∧xs.length=its.length∧s.heap.get? l=some { cls:=.type "list",data:=.seq its.toArray n }:=by
 obtain⟨z,its,n,r,e⟩:=I.hok l _ hH
 exact⟨z,its,n,r,r.length,e⟩
end
section
variable {X:Cx}
def je5:V→List V→Hp→VK→Prop:=fun x vs H Q=>∃ l xs y,x=.ref l∧vs=[y]∧H l=some (.lst xs)∧xs.length < sizeLine∧Q .non (upd H l (.lst (xs++[y])))
theorem j21:MtM X "list.append" je5:=by
 intro pins s σ H x vs v us Q I rx rv h
 obtain⟨l,xs,y,rfl,rfl,hH,hz,q⟩:=h
 cases rx
 obtain⟨u,rfl,ru⟩:=rv.one
 obtain⟨z,its,n,r,hl,e⟩:=I.lstM hH
 refine call_meets F.slot_list_append ⟨_,e,rfl⟩ F.entry_list_append (F.args_list_append_2 _ _) (PySem.list_append l its.toArray n u (by rw[List.size_toArray];omega)) ⟨e,?_⟩
 refine⟨.non,_,I.lset (its':=its++[u]) hH e (by simp) (r.append (.cons ru .nil)) ?_,rfl,q⟩
 rw[List.length_append,List.length_singleton]
 omega
def ji5:V→List V→Hp→VK→Prop:=fun x vs H Q=>∃ l xs,x=.ref l∧vs=[]∧H l=some (.lst xs)∧Q .non (upd H l (.lst []))
theorem jfg:MtM X "list.clear" ji5:=by
 intro pins s σ H x vs v us Q I rx rv h
 obtain⟨l,xs,rfl,rfl,hH,q⟩:=h
 cases rx
 have hus:=rv.zero
 subst hus
 obtain⟨z,its,n,r,hl,e⟩:=I.lstM hH
 refine call_meets F.slot_list_clear ⟨_,e,rfl⟩ F.entry_list_clear (F.args_list_clear_1 _) (AutoSeq1.list_clear_list_0 l its.toArray n (by rw[List.size_toArray];omega)) ⟨e,?_⟩
 exact⟨.non,_,I.lset (its':=[]) (ys:=[]) hH e rfl .nil (Nat.zero_le _),rfl,q⟩
def rCat:R2:=fun x y H Q=>∃ l b xs zs,x=.ref l∧y=.ref b∧H l=some (.lst xs)∧H b=some (.lst zs)∧xs.length+zs.length≤sizeLine∧∀ p,H p=none→Q (.ref p) (upd H p (.lst (xs++zs)))
theorem op_cat:OpR X (binaryOp .Add) rCat:=by
 intro pins s σ H x y v u Q I rx ry h
 obtain⟨l,b,xs,zs,rfl,rfl,hH,hB,hz,q⟩:=h
 cases rx
 cases ry
 obtain⟨z,its,n,r,hl,e⟩:=I.lstM hH
 obtain⟨z2,its2,n2,r2,hl2,e2⟩:=I.lstM hB
 refine PySem.P.add_list e e2 ?_ (by rw[List.size_toArray,List.size_toArray];omega)
 have ea:its.toArray++its2.toArray=(its++its2).toArray:=by simp
 rw[ea]
 exact⟨.ref _,_,I.lnew (t':=s.toks) (r.append r2) (by rw[List.length_append];omega),rfl,q _ I.fresh⟩
end
section
variable {κ:Type} [DecidableEq κ]
def valV (kvs:List (κ × V)) (k:κ):Option V:=(kvs.find? fun kv=>decide (kv.1=k)).map (·.2)
def putK (kvs:List (κ × V)) (k:κ) (v:V):List (κ × V) :=
 if (kvs.any fun kv=>decide (kv.1=k))=true then kvs.map (fun kv=>if kv.1=k then (kv.1,v) else kv) else kvs++[(k,v)]
def dropK (kvs:List (κ × V)) (k:κ):List (κ × V):=kvs.filter fun kv=>decide (kv.1≠k)
theorem j4j {p:κ × V}{r:List (κ × V)}{k:κ} (e:p.1=k):valV (p :: r) k=some p.2:=by simp[valV,List.find?_cons,e]
theorem j4k {p:κ × V}{r:List (κ × V)}{k:κ} (e:¬ p.1=k):valV (p :: r) k=valV r k:=by simp[valV,List.find?_cons,e]
theorem j6n (k:κ):∀ kvs:List (κ × V),(kvs.any fun kv=>decide (kv.1=k))=(valV kvs k).isSome
 | []=>rfl
 | p :: r=>by
  rw[List.any_cons]
  by_cases e:p.1=k
  ·simp only[j4j e,decide_eq_true e,Bool.true_or,Option.isSome_some]
  ·rw[j4k e,decide_eq_false e,Bool.false_or];exact j6n k r
theorem j43 (kvs:List (κ × V)) (k:κ) (v:V):(putK kvs k v).length≤kvs.length+1:=by
 unfold putK
 split
 ·rw[List.length_map];omega
 ·rw[List.length_append,List.length_cons,List.length_nil];omega
theorem RelO.isSome_eq {o:Option V}{u:Option Value} (r:RelO o u):o.isSome=u.isSome:=by
 cases o with
 | none=>cases u with
  | none=>rfl
  | some _=>exact (show False from r).elim
 | some _=>cases u with
  | none=>exact (show False from r).elim
  | some _=>rfl
theorem RelO.getD {o:Option V}{u:Option Value}{d:V}{d':Value} (r:RelO o u) (rd:RelV d d'):RelV (o.getD d) (u.getD d'):=by
 cases o with
 | none=>cases u with
  | none=>exact rd
  | some _=>exact (show False from r).elim
 | some _=>cases u with
  | none=>exact (show False from r).elim
  | some _=>exact r
theorem KV.val {kvs:List (κ × V)}{vs:List (κ × Value)} (r:KV kvs vs) (k:κ):RelO (valV kvs k) (valueAt vs k):=by
 unfold KV at r
 induction r with
 | nil=>exact True.intro
 | @cons p q ps qs h t ih =>
  obtain⟨h1,h2⟩:=h
  by_cases e:p.1=k
  ·have e':q.1=k:=h1.symm.trans e
   have b:valueAt (q :: qs) k=some q.2:=by simp[valueAt,List.find?_cons,e']
   rw[j4j e,b];exact h2
  ·have e':¬ q.1=k:=fun z=>e (h1.trans z)
   have b:valueAt (q :: qs) k=valueAt qs k:=by simp[valueAt,List.find?_cons,e']
   rw[j4k e,b];exact ih
theorem KV.any {kvs:List (κ × V)}{vs:List (κ × Value)} (r:KV kvs vs) (k:κ):(kvs.any fun kv=>decide (kv.1=k))=vs.any fun kv=>decide (kv.1=k):=by
 unfold KV at r
 induction r with
 | nil=>rfl
 | cons h t ih=>rw[List.any_cons,List.any_cons,ih,h.1]
theorem KV.repl {kvs:List (κ × V)}{vs:List (κ × Value)} (r:KV kvs vs) (k:κ) {y:V}{u:Value} (ry:RelV y u) :
  KV (kvs.map fun kv=>if kv.1=k then (kv.1,y) else kv) (vs.map fun kv=>if kv.1=k then (kv.1,u) else kv):=by
 unfold KV at r ⊢
 induction r with
 | nil=>exact .nil
 | @cons p q ps qs h t ih =>
  rw[List.map_cons,List.map_cons]
  refine .cons ?_ ih
  obtain⟨h1,h2⟩:=h
  by_cases e:p.1=k
  ·rw[if_pos e,if_pos (h1.symm.trans e)];exact⟨h1,ry⟩
  ·rw[if_neg e,if_neg (fun z=>e (h1.trans z))];exact⟨h1,h2⟩
theorem KV.put {kvs:List (κ × V)}{vs:List (κ × Value)} (r:KV kvs vs) (k:κ) {y:V}{u:Value} (ry:RelV y u):KV (putK kvs k y) (stored vs k u):=by
 unfold putK stored
 rw[r.any k]
 by_cases e:(vs.any fun kv=>decide (kv.1=k))=true
 ·rw[if_pos e,if_pos e];exact r.repl k ry
 ·rw[if_neg e,if_neg e];exact Paired.snoc r ⟨rfl,ry⟩
theorem KV.drop {kvs:List (κ × V)}{vs:List (κ × Value)} (r:KV kvs vs) (k:κ):KV (dropK kvs k) (without vs k):=by
 unfold KV at r ⊢
 unfold dropK without
 induction r with
 | nil=>exact .nil
 | @cons p q ps qs h t ih =>
  obtain⟨h1,h2⟩:=h
  rw[List.filter_cons,List.filter_cons]
  by_cases e:p.1=k
  ·have a:¬ decide (p.1≠k)=true:=by simp[e]
   have b:¬ decide (q.1≠k)=true:=by simp[h1.symm.trans e]
   rw[if_neg a,if_neg b];exact ih
  ·have e':¬ q.1=k:=fun z=>e (h1.trans z)
   have a:decide (p.1≠k)=true:=by simp[e]
   have b:decide (q.1≠k)=true:=by simp[e']
   rw[if_pos a,if_pos b];exact .cons ⟨h1,h2⟩ ih
theorem KV.keys {kvs:List (κ × V)}{vs:List (κ × Value)} (r:KV kvs vs):kvs.map (·.1)=vs.map (·.1):=by
 unfold KV at r
 induction r with
 | nil=>rfl
 | cons h t ih=>rw[List.map_cons,List.map_cons,ih,h.1]
theorem KV.length {kvs:List (κ × V)}{vs:List (κ × Value)} (r:KV kvs vs):kvs.length=vs.length:=Paired.length r
end
theorem jlx {P:Program}{w:World}{k:Key}{u:Value} (r:RelV (kV k) u):(j11 P w).is k u=true:=by
 cases k with
 | inl i=>obtain⟨t,e⟩:=(show ∃ t,u=Value.int i t from r);subst e;exact j8p P w i t
 | inr x=>obtain⟨t,e⟩:=(show ∃ t,u=Value.str x t from r);subst e;exact j8q P w x t
theorem j7t {P:Program}{w:World}:∀ {ks:List Key}{us:List Value},Vals (ks.map kV) us→ItemsAre (j11 P w) ks us
 | [],_,r=>by rw[List.map_nil] at r;cases r;exact .nil
 | k :: ks,_,r=>by
  rw[List.map_cons] at r
  cases r with
  | cons h t=>exact .cons (jlx h) (j7t t)
abbrev KT (H:Hp):List (List Key × V)→List (List Key × Addr × Value)→Prop:=Paired fun p q=>p.1=q.1∧H q.2.1=some (.tup (p.1.map kV))∧RelV p.2 q.2.2
theorem KT.val {H:Hp}{kvs:List (List Key × V)}{xs:List (List Key × Addr × Value)} (r:KT H kvs xs) (k:List Key):RelO (valV kvs k) ((atKey xs k).map (·.2)):=by
 induction r with
 | nil=>exact True.intro
 | @cons p q ps qs h t ih =>
  obtain⟨h1,_,h2⟩:=h
  by_cases e:p.1=k
  ·have e':q.1=k:=h1.symm.trans e
   have b:atKey (q :: qs) k=some q.2:=by simp[atKey,List.find?_cons,e']
   rw[j4j e,b];exact h2
  ·have e':¬ q.1=k:=fun z=>e (h1.trans z)
   have b:atKey (q :: qs) k=atKey qs k:=by simp[atKey,List.find?_cons,e']
   rw[j4k e,b];exact ih
theorem KT.repl {H:Hp}{kvs:List (List Key × V)}{xs:List (List Key × Addr × Value)} (r:KT H kvs xs) (k:List Key) {y:V}{u:Value} (ry:RelV y u) :
  KT H (kvs.map fun kv=>if kv.1=k then (kv.1,y) else kv) (xs.map (putAt k u)):=by
 induction r with
 | nil=>exact .nil
 | @cons p q ps qs h t ih =>
  rw[List.map_cons,List.map_cons]
  refine .cons ?_ ih
  obtain⟨h1,h2,h3⟩:=h
  unfold putAt
  by_cases e:p.1=k
  ·rw[if_pos e,if_pos (h1.symm.trans e)];exact⟨h1,h2,ry⟩
  ·rw[if_neg e,if_neg (fun z=>e (h1.trans z))];exact⟨h1,h2,h3⟩
theorem KT.put {H:Hp}{kvs:List (List Key × V)}{xs:List (List Key × Addr × Value)} (r:KT H kvs xs) (k:List Key) {b:Addr}{y:V}{u:Value} (hb:H b=some (.tup (k.map kV))) (ry:RelV y u) :
  KT H (putK kvs k y) (storedH xs k b u):=by
 have e:(kvs.any fun kv=>decide (kv.1=k))=(atKey xs k).isSome:=by
  rw[j6n,(r.val k).isSome_eq,Option.isSome_map]
 unfold putK storedH
 rw[e]
 by_cases q:(atKey xs k).isSome=true
 ·rw[if_pos q,if_pos q];exact r.repl k ry
 ·rw[if_neg q,if_neg q];exact Paired.snoc r ⟨rfl,hb,ry⟩
theorem KT.keeps {H H':Hp}{kvs:List (List Key × V)}{xs:List (List Key × Addr × Value)} (r:KT H kvs xs) (ht:∀ b ys,H b=some (.tup ys)→H' b=some (.tup ys)):KT H' kvs xs :=
 Paired.mapP r fun _ _ z=>⟨z.1,ht _ _ z.2.1,z.2.2⟩
section
variable {P:Program}{w:World}{H:Hp}{h:Heap}{a:Addr}
theorem rd_of {u:HO} (ok:HOk P w H h) (e:Rd H a u):ObjOk P w H h a u:=e.ok ok
theorem jlr {kvs:List (Key × V)} (ok:HOk P w H h) (e:Rd H a (.dK kvs)):kvs.length≤sizeLine∧(a == sysModules)=false∧∃ vs,KV kvs vs∧h.DictOf (j11 P w) a vs :=
 show ObjOk P w H h a (.dK kvs) from rd_of ok e
theorem dk_of {kvs:List (Key × V)} (ok:HOk P w H h) (e:H a=some (.dK kvs)):kvs.length≤sizeLine∧(a == sysModules)=false∧∃ vs,KV kvs vs∧h.DictOf (j11 P w) a vs:=jlr ok (.inl e)
theorem ja1 {ks:List Key} (ok:HOk P w H h) (e:H a=some (.tup (ks.map kV))):(tupleKind (j11 P w)).is h ks a:=by
 obtain⟨_,its,r,⟨o,h1,h2,n,h3⟩,_⟩:=(show ObjOk P w H h a (.tup (ks.map kV)) from ok a _ e)
 exact⟨o,its.toArray,n,h1,h2,h3,by simpa using j7t r⟩
theorem jls {kvs:List (List Key × V)} (ok:HOk P w H h) (e:Rd H a (.dT kvs)):kvs.length≤sizeLine∧(a == sysModules)=false ∧
  ∃ xs,KT H kvs xs∧h.DictOfH (tupleKind (j11 P w)) a xs:=by
 obtain⟨z,y,xs,r,o,es,ep,h1,h2,h3,h4,h5⟩:=(show ObjOk P w H h a (.dT kvs) from rd_of ok e)
 refine⟨z,y,xs,r,o,es,ep,h1,h2,h3,h4,fun x hx=>?_,h5⟩
 have all:∀ {l:List (List Key × V)}{m:List (List Key × Addr × Value)},KT H l m→∀ x∈m,(tupleKind (j11 P w)).is h x.1 x.2.1:=by
  intro l m q
  induction q with
  | nil=>intro x hx;exact nomatch hx
  | @cons p q ps qs hq t ih =>
   intro x hx
   rcases List.mem_cons.mp hx with e | hx
   ·subst e
    exact ja1 ok (by rw[← hq.1];exact hq.2.1)
   ·exact ih x hx
 exact all r x hx
theorem jmi {kvs:List (List Key × V)} (ok:HOk P w H h) (e:H a=some (.dT kvs)):kvs.length≤sizeLine∧(a == sysModules)=false ∧
  ∃ xs,KT H kvs xs∧h.DictOfH (tupleKind (j11 P w)) a xs:=jls ok (.inl e)
end
def DGet (H:Hp) (a:Addr) (y:V) (r:Option V):Prop :=
 (∃ kvs k,Rd H a (.dK kvs)∧y=kV k∧r=valV kvs k)∨∃ kvs k b,Rd H a (.dT kvs)∧y=.ref b∧H b=some (.tup (k.map kV))∧r=valV kvs k
def DPut (H:Hp) (a:Addr) (y v:V) (H':Hp):Prop :=
 (∃ kvs k,H a=some (.dK kvs)∧y=kV k∧kvs.length < sizeLine∧H'=upd H a (.dK (putK kvs k v))) ∨
 ∃ kvs k b,H a=some (.dT kvs)∧y=.ref b∧H b=some (.tup (k.map kV))∧kvs.length < sizeLine∧H'=upd H a (.dT (putK kvs k v))
theorem DGet.k {H:Hp}{a:Addr}{kvs:List (Key × V)}{k:Key} (e:H a=some (.dK kvs)):DGet H a (kV k) (valV kvs k):=.inl ⟨kvs,k,.inl e,rfl,rfl⟩
theorem DGet.t {H:Hp}{a b:Addr}{kvs:List (List Key × V)}{k:List Key} (e:H a=some (.dT kvs)) (eb:H b=some (.tup (k.map kV))):DGet H a (.ref b) (valV kvs k):=.inr ⟨kvs,k,b,.inl e,rfl,eb,rfl⟩
theorem DPut.k {H:Hp}{a:Addr}{kvs:List (Key × V)}{k:Key}{v:V} (e:H a=some (.dK kvs)) (hl:kvs.length < sizeLine):DPut H a (kV k) v (upd H a (.dK (putK kvs k v))):=.inl ⟨kvs,k,e,rfl,hl,rfl⟩
theorem DPut.t {H:Hp}{a b:Addr}{kvs:List (List Key × V)}{k:List Key}{v:V} (e:H a=some (.dT kvs)) (eb:H b=some (.tup (k.map kV))) (hl:kvs.length < sizeLine) :
  DPut H a (.ref b) v (upd H a (.dT (putK kvs k v))):=.inr ⟨kvs,k,b,e,rfl,eb,hl,rfl⟩
section
variable {X:Cx}{pins:List (Addr × Obj)}{σ:St}{H:Hp}{s:Shared}{a:Addr}{y v:V}{u r:Value}{o:Option V}{A:Around}{E:Value→Shared→Prop}
theorem Inv.big (I:Inv X pins σ H s):sysModules < s.heap.objs.size:=by
 have h:mainGlobals < s.heap.objs.size:=(I.mod.glob.keeps I.bk).lt
 exact Nat.lt_trans (by decide) h
theorem jcr {Q:Value→Shared→Prop} (hu:A.units+1 < cLine) (I:Inv X pins σ H s) (g:DGet H a y (some v)) (ry:RelV y u) (h:∀ w' s',Inv X pins σ H s'→RelV v w'→Q w' s') :
  wpAny (model X.prog X.w) A (getItem (.ref a) u) Q E s:=by
 rcases g with⟨kvs,k,e,ey,l⟩ | ⟨kvs,k,b,e,ey,eb,l⟩
 ·subst ey
  obtain⟨z,hd,vs,rel,dd⟩:=jlr I.hok e
  obtain⟨w',hw,rw'⟩:=RelO.some_of (v:=v) (o:=valueAt vs k) (by rw[l];exact rel.val k)
  exact wpAny_getItem_of (jlx ry) dd.mapOf hw (h w' _ (I.tok _) rw')
 ·subst ey
  cases (show u=Value.ref b from ry)
  obtain⟨z,hd,xs,rel,dd⟩:=jls I.hok e
  obtain⟨w',hw,rw'⟩:=RelO.some_of (v:=v) (o:=(atKey xs k).map (·.2)) (by rw[l];exact rel.val k)
  obtain⟨p,hp,hp2⟩:=Option.map_eq_some_iff.mp hw
  refine wpAny_getItem_heap (tupleKind_room_in1 hu) (ja1 I.hok eb) dd hp ?_
  rw[hp2]
  exact h w' _ (I.tok _) rw'
theorem ji6 {Q:Value→Shared→Prop} (hu:A.units+1 < cLine) (I:Inv X pins σ H s) (g:DGet H a y o) (ry:RelV y u) (h:∀ s',Inv X pins σ H s'→Q (.bool (!o.isSome)) s') :
  wpAny (model X.prog X.w) A (compareOp .NotIn u (.ref a)) Q E s:=by
 rcases g with⟨kvs,k,e,ey,l⟩ | ⟨kvs,k,b,e,ey,eb,l⟩
 ·subst ey
  obtain⟨z,hd,vs,rel,dd⟩:=jlr I.hok e
  refine wpAny_notIn_of (jlx ry) hd dd.mapOf ?_
  rw[← (rel.val k).isSome_eq,← l]
  exact h _ (I.tok _)
 ·subst ey
  cases (show u=Value.ref b from ry)
  obtain⟨z,hd,xs,rel,dd⟩:=jls I.hok e
  refine wpAny_notIn_heap (tupleKind_room_in1 hu) (ja1 I.hok eb) hd dd ?_
  have q:=(rel.val k).isSome_eq
  rw[Option.isSome_map] at q
  rw[← q,← l]
  exact h _ (I.tok _)
theorem ja2 {h':Heap}{t':Nat}{ob:HO} (I:Inv X pins σ H s) (mu:Mut (H a)) (hs:Heap.SameBut a s.heap h') (he:∃ q,h'.get? a=some q) (new:ObjOk X.prog X.w (upd H a ob) h' a ob) :
  Inv X pins σ (upd H a ob) { s with heap:=h',toks:=t' } :=
 I.write (x:=a) (e:=a) mu (.inl rfl) (fun b q hb z=>(hs.2 b hb).trans z) he new
theorem dk_new {P:Program}{w:World}{H':Hp}{h':Heap}{kvs:List (Key × V)}{vs:List (Key × Value)} (z:kvs.length≤sizeLine) (hd:(a == sysModules)=false) (rel:KV kvs vs) (dd:h'.DictOf (j11 P w) a vs) :
  ObjOk P w H' h' a (.dK kvs):=⟨z,hd,vs,rel,dd⟩
theorem jcs {H':Hp}{Q:Unit→Shared→Prop} (hu:A.units+1 < cLine) (I:Inv X pins σ H s) (g:DPut H a y v H') (ry:RelV y u) (rv:RelV v r) (h:∀ s',Inv X pins σ H' s'→Q () s') :
  wpAny (model X.prog X.w) A (setItem (.ref a) u r) Q E s:=by
 rcases g with⟨kvs,k,e,ey,l,eH⟩ | ⟨kvs,k,b,e,ey,eb,l,eH⟩
 ·subst ey eH
  obtain⟨z,hd,vs,rel,dd⟩:=dk_of I.hok e
  have hz:vs.length≤sizeLine:=by rw[← rel.length];exact z
  have hl:(putK kvs k v).length≤sizeLine:=by have:=j43 kvs k v;omega
  refine wpAny_setItem_pairs (hsz:=hz) (jlx ry) dd fun h' dd' hs=>h _ ?_
  have he:∃ q,h'.get? a=some q:=let ⟨q,_,_,hq,_⟩:=dd';⟨q,hq⟩
  exact ja2 I (by rw[e];exact True.intro) hs he (dk_new hl hd (rel.put k rv) dd')
 ·subst ey eH
  cases (show u=Value.ref b from ry)
  obtain⟨z,hd,xs,rel,dd⟩:=jmi I.hok e
  have hz:xs.length≤sizeLine:=by rw[← Paired.length rel];exact z
  have hl:(putK kvs k v).length≤sizeLine:=by have:=j43 kvs k v;omega
  refine wpAny_setItem_heap (hsz:=hz) (tupleKind_room_in1 hu) (ja1 I.hok eb) dd fun h' dd' hs=>h _ ?_
  obtain⟨q,es,ep,hq,h2,h3,h4,_,h5⟩:=dd'
  refine ja2 I (by rw[e];exact True.intro) hs ⟨q,hq⟩ ⟨hl,hd,_,(rel.put k eb rv).keeps fun c ys ec=>?_,q,es,ep,hq,h2,h3,h4,h5⟩
  rw[j08 (j58 ec e (fun z=>nomatch z))]
  exact ec
end
def NoSl (i:Expr):Prop:=∀ ov iv,subscripted i false ov iv=operate [ov,iv] (getItem ov iv)
theorem ji7 {prog:Program}{w:World}{A:Around}{E:Value→Shared→Prop}{s:Shared}{env:Env}{value slice:Expr}{pos:Pos}{T id:String}{Q:Value→Shared→Prop}
  (hl:typeLookup (.type T) "__getitem__"=pure (some (.builtin id))) (hs:NoSl slice)
  (h:wpAny (model prog w) A (eval value env) (fun o s₁=>wpAny (model prog w) A (eval slice env) (fun i s₂=>s₂.TypeIs o T∧wpAny (model prog w) A (getItem o i) Q E s₂) E s₁) E s) :
  wpAny (model prog w) A (eval (.Subscript value slice pos) env) Q E s:=by
 refine Subscript_ (wpAny_mono h (fun o s₁ h₁=>wpAny_mono h₁ (fun i s₂ h₂=>?_) fun _ _ x=>x) fun _ _ x=>x)
 obtain⟨hT,h₂⟩:=h₂
 unfold subscriptTail
 refine wpAny_bind ?_
 rw[getitemInPython_of_ne hT.not_modules]
 refine wpAny_bind (wpAny_specialOf hT hl ?_)
 have fin:wpAny (model prog w) A (subscripted slice false o i) (fun r s₃=>wpAny (model prog w) A (letTemporaryGo value o r >>= fun _=>pure r) Q E s₃) E s₂:=by
  rw[hs o i]
  exact wpAny_operating (wpAny_mono h₂ (fun r s₃ h₃=>wpAny_bind (wpAny_letTemporaryGo (wpAny_pure h₃))) fun _ _ x=>x)
 first
  | exact wpAny_pure (wpAny_bind fin)
  | exact wpAny_bind (wpAny_pure (wpAny_bind fin))
  | exact wpAny_bind fin
theorem j8v {X:Cx}{pins:List (Addr × Obj)}{σ:St}{H:Hp}{s:Shared}{a:Addr}{y:V}{o:Option V} (I:Inv X pins σ H s) (g:DGet H a y o):s.TypeIs (.ref a) "dict":=by
 rcases g with⟨kvs,k,e,_,_⟩ | ⟨kvs,k,b,e,_,_,_⟩
 ·obtain⟨_,_,vs,_,dd⟩:=jlr I.hok e
  exact dd.typeIs
 ·obtain⟨_,_,xs,_,dd⟩:=jls I.hok e
  exact dd.typeIs
def jmk (td ty:TE):TE:=fun σ H Q=>td σ H fun x H1=>ty σ H1 fun y H2=>∃ a v,x=.ref a∧DGet H2 a y (some v)∧Q v H2
def jml (td ty tv:TE):TS:=fun D σ H=>tv σ H fun v H1=>td σ H1 fun x H2=>ty σ H2 fun y H3=>∃ a H4,x=.ref a∧DPut H3 a y v H4∧D.nx σ H4
section
variable {X:Cx}{o i e value:Expr}{pos pos' tpos:Pos}{td ty tv:TE}
theorem ji8 (hu:X.A.units+1 < cLine) (ho:PE X o td) (hi:PE X i ty) (hs:NoSl i):PE X (.Subscript o i pos) (jmk td ty):=by
 intro pins s σ H Q I h
 refine ji7 PySem.F.slot_dict_getitem.lookup hs (thn (ho pins s σ H _ I h) fun u s1 ⟨x,H1,I1,rx,q1⟩=>thn (hi pins s1 σ H1 _ I1 q1) fun iv s2 ⟨y,H2,I2,ry,a,v,ex,g,q2⟩=>?_)
 subst ex
 obtain rfl:u=Value.ref a:=rx
 exact⟨j8v I2 g,jcr hu I2 g ry fun w' s3 I3 rw'=>⟨v,H2,I3,rw',q2⟩⟩
theorem ji9 (hu:X.A.units+1 < cLine) (ho:PE X o td) (hi:PE X i ty) (hv:PE X value tv) (hs:swapsWith value (some (.Subscript o i pos')) pos.line X.env=pure false) :
  PS X (.Assign [.Subscript o i pos'] value pos) (jml td ty tv):=by
 intro pins s σ H D I h
 refine wpAny_Assign_Subscript (thn (hv pins s σ H _ I h) fun r s1 ⟨v,H1,I1,rv,q1⟩=>thn (ho pins s1 σ H1 _ I1 q1) fun u s2 ⟨x,H2,I2,rx,q2⟩=>thn (hi pins s2 σ H2 _ I2 q2) fun iv s3 ⟨y,H3,I3,ry,a,H4,ex,g,q3⟩=>?_) hs
 subst ex
 obtain rfl:u=Value.ref a:=rx
 exact jcs hu I3 g ry rv fun s4 I4=>⟨σ,H4,I4,q3⟩
end
theorem ja3 {P:Program}{w:World}{H:Hp} (h:Heap) (hb:sysModules < h.objs.size):ObjOk P w H (h.push { cls:=.type "dict",data:=.dict #[] }) h.objs.size (.dT []) :=
 ⟨Nat.zero_le _,beq_eq_false_iff_ne.mpr (Ne.symm (Nat.ne_of_lt hb)),[],.nil,_,#[],0,Heap.get?_push_size _ rfl,⟨rfl,rfl,rfl⟩,rfl,rfl,List.nodup_nil⟩
def jia:TE:=fun _ H Q=>∀ p,H p=none→Q (.ref p) (upd H p (.dT []))
section
variable {X:Cx}{pos:Pos}
theorem jfh:PE X (.Dict [] [] pos) jia:=fun pins s σ H Q I h =>
 wpAny_Dict_empty ⟨.ref s.heap.objs.size,_,I.laid (a:=s.heap.objs.size) (o:=.dT []) (t':=s.toks) (fun _ _ q=>Heap.get?_push_of_some _ q) (Nat.le_refl _) (ja3 s.heap I.big),rfl,h _ (I.hok.fresh (Nat.le_refl _))⟩
end
def jfi:List (TE × TE)→St→Hp→(List (V × V)→Hp→Prop)→Prop
 | [],_,H,Q=>Q [] H
 | (tk,tv) :: r,σ,H,Q=>tk σ H fun x H1=>tv σ H1 fun y H2=>jfi r σ H2 fun ps H3=>Q ((x,y) :: ps) H3
abbrev VV:List (V × V)→List (Value × Value)→Prop:=Paired fun p q=>RelV p.1 q.1∧RelV p.2 q.2
def PPs (X:Cx) (pos:Pos) (keys:List (Option Expr)) (values:List Expr) (trs:List (TE × TE)):Prop :=
 ∀ (pins:List (Addr × Obj)) (s:Shared) (σ:St) (H:Hp) (Q:List (V × V)→Hp→Prop),Inv X pins σ H s→jfi trs σ H Q →
  wpAny (model X.prog X.w) X.A (evalPairs (pairTrees keys values X.env pos)) (fun vs s'=>∃ ps H',Inv X pins σ H' s'∧VV ps vs∧Q ps H') X.xe s
theorem jib {X:Cx}{pos:Pos}:PPs X pos [] [] []:=fun pins s σ H Q I h=>pairTrees_nil_walk ⟨[],H,I,.nil,h⟩
theorem jfj {X:Cx}{pos:Pos}{k v:Expr}{ks:List (Option Expr)}{vs:List Expr}{tk tv:TE}{trs:List (TE × TE)} (hk:PE X k tk) (hv:PE X v tv) (hr:PPs X pos ks vs trs) :
  PPs X pos (some k :: ks) (v :: vs) ((tk,tv) :: trs):=fun pins s σ H Q I h =>
 pairTrees_cons_walk (thn (hk pins s σ H _ I h) fun u s1 ⟨x,H1,I1,rx,q1⟩=>thn (hv pins s1 σ H1 _ I1 q1) fun w2 s2 ⟨y,H2,I2,ry,q2⟩ =>
  thn (hr pins s2 σ H2 _ I2 q2) fun ws s3 ⟨ps,H3,I3,rel,q3⟩=>⟨(x,y) :: ps,H3,I3,.cons ⟨rx,ry⟩ rel,q3⟩)
structure M1 (X:Cx) (o:Expr) (m:Str) (apos:Pos) (e:Expr) (cpos:Pos):Prop where
 base:attributeBase o m X.env (eval o X.env)=eval o X.env
 few:((backTo cpos (starEach [e] X.env)).all (fun x=>!x.1) && (backToKw cpos (keywordEach [] X.env)).all (fun x=>x.1.isSome)
  && decide (([e]:List Expr).length+([]:List Keyword).length+(if ([]:List Keyword).isEmpty then 0 else 1) < 30))=true
 line:(apos.endLine == cpos.line)=true
 trees:backTo cpos (starEach [e] X.env)=[(false,eval e X.env)]
structure M2 (X:Cx) (o:Expr) (m:Str) (apos:Pos) (e f:Expr) (cpos:Pos):Prop where
 base:attributeBase o m X.env (eval o X.env)=eval o X.env
 few:((backTo cpos (starEach [e,f] X.env)).all (fun x=>!x.1) && (backToKw cpos (keywordEach [] X.env)).all (fun x=>x.1.isSome)
  && decide (([e,f]:List Expr).length+([]:List Keyword).length+(if ([]:List Keyword).isEmpty then 0 else 1) < 30))=true
 line:(apos.endLine == cpos.line)=true
 trees:backTo cpos (starEach [e,f] X.env)=[(false,eval e X.env),(false,eval f X.env)]
end L2
namespace Att
open PySem PySem.W PySem.Calls PyProof.Rows
theorem j3v {P:Params}{h:Heap}:∀ (ns:List Int) (vs:List Value),WellAll P h vs (ns.map WData.int)→IntsAre vs ns:=by
 intro ns
 induction ns with
 | nil =>
  intro vs w
  rw[List.map_nil] at w
  cases w
  exact .nil
 | cons n ns ih =>
  intro vs w
  rw[List.map_cons] at w
  cases w with
  | cons a b =>
   cases a
   exact .cons _ _ (ih _ b)
theorem script_of {l:OpenLaw}{n:Nat} (hn:l.most=some n) {P:Params}{h:Heap}{args:List WData}{vals:List Value}
  (hpre:l.row.toRowW.claim.pre args=true) (hwl:WellAll P h vals args) :
  ∃ a vs ns,vals=[Value.ref a]∧args=[WData.list (ns.map WData.int)]∧h.get? a=some { cls:=.type "list",data:=.seq vs.toArray }∧IntsAre vs ns∧ns.length≤n:=by
 have hsh:WShape.hasAll [] args [.list .int]=true:=(pre_splitW hpre).1
 have hc:l.pre.holds [] { args:=args }=true:=(pre_splitW hpre).2
 obtain⟨d,r,rfl,h1,h2⟩:=hasAllW_cons hsh
 obtain rfl:=hasAllW_nil h2
 obtain⟨xs,rfl,h3⟩:=hasW_list h1
 obtain⟨ns,rfl⟩:=items_int h3
 have hlen:ns.length≤n:=by
  unfold OpenLaw.pre at hc
  have h4:(WTm.not (.lt (.lit (.int (n:Int))) (.len (.arg 0)))).holds [] { args:=[.list (ns.map .int)] }=true:=by
   have h4:=(holds_andW hc).1
   rw[hn] at h4
   exact h4
  have h5:=condW_of h4 (w_not (w_lt w_lit (w_len_list (w_arg rfl))))
  rw[List.length_map] at h5
  refine Nat.le_of_not_lt fun q=>?_
  have q':(n:Int) < ((ns.length:Nat):Int):=by omega
  first
   | (rw[decide_eq_true q'] at h5;exact absurd h5 (by decide))
   | (simp at h5;omega)
 cases hwl with
 | cons w1 w2 =>
  cases w2
  cases w1 with
  | list ho hall=>exact⟨_,_,ns,rfl,rfl,ho,j3v ns _ hall,hlen⟩
theorem post_true (l:OpenLaw) (args:List WData):l.row.toRowW.claim.post args (.bool true) args=true :=
 postW_of (r:=l.row.toRowW) (X:=(true == true))
  (show WShape.has [] (.bool true) .bool=true by first | rfl | decide | simp[WShape.has,WShape.arms,WShape.armsAll])
  (show (WTm.eq .res (.lit (.bool true))).value [] { args:=args,res:=some (.bool true),after:=args }=some (.bool (true == true)) from w_eq_bool (w_res rfl) w_lit) rfl
theorem attach_call {l:OpenLaw}{n:Nat}{q:Program}{loose:List Str}{XP:(Str→Option Value)→Heap→Prop}{YP:World→Heap→Prop}{d:DefRec}
  (hn:l.most=some n) (hdf:d.params.defaults=[])
  (call:∀ (w:World) (s₀ s₁:Shared) (mg mb:Str→Option Value) (fa:Addr) (o:Obj) (pm cd doc:Value) (a:Addr) (vs:List Value) (ns:List Int),
   Ground q loose [] XP w s₀ mg mb s₁.heap→YP w s₁.heap →
   s₁.heap.get? fa=some o→o.data=.func (docDef d.name d.params d.body d.scope pm cd doc)→s₁.heap.CodeRec cd d.name→mg d.name=some (.ref fa) →
   s₁.heap.get? a=some { cls:=.type "list",data:=.seq vs.toArray }→IntsAre vs ns→ns.length≤n→s₁.gens=#[] →
   codeAny (model l.prog w) callerA (.call (.ref fa) ⟨[.ref a],[]⟩) (fun r s'=>r=.ok (.ret (.bool true))∧OldK s₁.heap s'.heap∧s'.os=s₁.os∧AllBare s'.gens) s₁) :
  WalkO q loose XP YP l.row.toRowW d [] (fun f vs=>PySem.call f vs):=by
 intro w s₀ s₁ mg mb G Y fa o pm cd doc dV kV ho hd hcd hD hmg hg args vals as hpre hlay hrd hwl hlo
 obtain rfl:dV=.none:=Dflts.none hD hdf
 obtain rfl:kV=.none:=Dflts.noKw hD
 obtain⟨a,vs,ns,rfl,rfl,hobj,hints,hlen⟩:=script_of hn hpre hwl
 refine enter_call (codeAny_mono (call w s₀ s₁ mg mb fa o pm cd doc a vs ns G Y ho (fd_plain hd) hcd hmg hobj hints hlen hg) fun r s' hq=>?_)
 obtain⟨rfl,h2,h3,h4⟩:=hq
 exact⟨.inl ⟨.bool true,.bool true,[],rfl,fun _=>rfl,.bool true,post_true l _,fun _=>⟨List.Pairwise.nil,fun _ hm=>(nomatch hm)⟩⟩,h2,h3,h4⟩
section
variable {prog:Program}{w:World}{A:Around}{E:Value→Shared→Prop}{s:Shared}{K:Frag}
def ledger (h:Heap) (L d:Addr):List (Addr × Obj):=(List.range h.objs.size).filterMap fun a=>if a=L∨a=d then none else (h.get? a).map fun o=>(a,o)
end
end Att
namespace L2
open PySem PySem.Spec PyProof.Rows
theorem j2s:∀ {vs:List Value}{ns:List Int},IntsAre vs ns→Vals (ns.map V.int) vs
 | _,_,.nil=>.nil
 | _,_,.cons n t h=>.cons ⟨t,rfl⟩ (j2s h)
def Only (H:Hp):Prop:=∀ b,H b=none∨∃ o xs,H b=some (.frz o (.lst xs))
theorem jfk {P:Program}{w:World}{K:PySem.W.Frag}{mg mb:Str→Option Value}{CX:CXT}{k:Nat}{fa a:Addr}{fd:FuncData}{x:Str}{sp:Sp}{s₁:Shared}{vs:List Value}{ns:List Int}
  (KX:K.In s₁.heap) (hns:s₁.heap.Ns mainGlobals mg) (hb:s₁.heap.Ns builtinsNs mb) (hbb:∀ x:Str,x≠"__name__"→mb x=bootBuiltins x) (hlim:s₁.heap.NoLimit) (hbm:∃ bm ob,mg "__builtins__"=some (.ref bm)∧bm≠builtinsNs∧s₁.heap.get? bm=some ob∧ob.cls=.type "module"∧ob.dict=some builtinsNs∧ob.data=.plain) (hg:s₁.gens=#[])
  (ha:s₁.heap.get? a=some { cls:=.type "list",data:=.seq vs.toArray }) (hi:IntsAre vs ns) (hl:ns.length≤sizeLine) (hr:Room k callerA)
  (F:∀ base:Heap,K.In base→base.Ns mainGlobals mg→FnOk P w K mg base CX k fa fd [x] sp) (hbind:∀ (s:Shared) (u:Value),BindsTo s fd ⟨[u],[]⟩ [(x,u)])
  (hsp:∀ H:Hp,Only H→SqL K H a (ns.map V.int)→sp [.ref a] H (fun v _=>v=.bl true) fun _ _ _=>False)
  (hCX:∀ H e s',CX [] H s₁ (fun _ _ _=>False) e s'→False) :
  codeAny (model P w) callerA (.call (.ref fa) ⟨[.ref a],[]⟩) (fun r s'=>r=.ok (.ret (.bool true))∧OldK s₁.heap s'.heap∧s'.os=s₁.os∧AllBare s'.gens) s₁:=by
 have rv:=j2s hi
 have lenV:=hi.length
 have core:∀ H:Hp,Only H→SqL K H a (ns.map V.int)→HOk P w H s₁.heap→(∀ b,H b≠none→b=a)→(H a≠none→K.lookup a=none) →
   codeAny (model P w) callerA (.call (.ref fa) ⟨[.ref a],[]⟩) (fun r s'=>r=.ok (.ret (.bool true))∧OldK s₁.heap s'.heap∧s'.os=s₁.os∧AllBare s'.gens) s₁:=by
  intro H hO hS hok hA hK
  have base_of:∀ {b:Addr}{o:Obj},s₁.heap.get? b=some o→H b=none→(hidT s₁.heap H).get? b=some o:=fun e n=>j9h e n
  have noA:∀ {b:Addr}{o:Obj}{es:Array DictEntry}{ep:Nat},s₁.heap.get? b=some o→o.data=.dict es ep→H b=none:=fun {b o es ep} e d=>by
   cases q:H b with
   | none=>rfl
   | some u =>
    have e':b=a:=hA b (by rw[q];simp)
    subst e'
    rw[ha] at e;cases e
    have d':Data.seq vs.toArray _=Data.dict es ep:=d
    cases d'
  have nsK:∀ {b:Addr}{m:Str→Option Value},s₁.heap.Ns b m→(hidT s₁.heap H).Ns b m:=fun {b m} ⟨o,es,ep,e,d,r⟩=>⟨o,es,ep,base_of e (noA e d),d,r⟩
  have hKb:K.In (hidT s₁.heap H):=fun b o e=>base_of (KX b o e) (by
   cases q:H b with
   | none=>rfl
   | some u =>
    have e':b=a:=hA b (by rw[q];simp)
    subst e'
    rw[hK (by rw[q];simp)] at e;cases e)
  have hM:Mod K mg (hidT s₁.heap H):=⟨hKb,nsK hns,⟨mb,nsK hb,hbb⟩,let ⟨mc,h1,h2⟩:=hlim;⟨mc,nsK h1,h2⟩,by
   obtain⟨bm,ob,b1,b2,b3,b4,b5⟩:=hbm
   refine⟨bm,ob,b1,b2,base_of b3 ?_,b4,b5⟩
   cases q:H bm with
   | none=>rfl
   | some u =>
    have e':bm=a:=hA bm (by rw[q];simp)
    subst e'
    rw[ha] at b3
    cases b3
    injection b4 with b4
    exact absurd b4 (by decide)⟩
  have e0:Env0 P w K mg (hidT s₁.heap H) callerA [] s₁ H:=⟨rfl,hM,fun b o e=>jdx e,Nat.le_of_eq (j7j _ _),trivial,fun b hb=>absurd (show b∈([]:List Addr) from hb) (by simp),hok,.of_eq hg⟩
  refine codeAny_mono ((F _ hKb (nsK hns)).run callerA [] s₁ H ⟨[.ref a],[]⟩ [.ref a] [.ref a] _ _ hr e0 (hbind s₁ (.ref a)) (.cons rfl .nil) (hsp H hO hS)) fun r s' h=>?_
  cases r with
  | error e=>exact (hCX H e s' h).elim
  | ok fl =>
   cases fl with
   | next=>exact False.elim h
   | brk=>exact False.elim h
   | cont=>exact False.elim h
   | ret u =>
    obtain⟨v,H',os,bare,un,hok',r',q⟩:=h
    have q':v=.bl true:=q
    subst q'
    obtain rfl:u=Value.bool true:=r'
    refine⟨rfl,OldK.of_keep fun b o e=>?_,os,bare⟩
    cases q:H b with
    | none=>exact un.keep b o e q (by intro z;exact absurd (show b∈([]:List Addr) from z) (by simp)) (by simp)
    | some u =>
     rcases hO b with z | ⟨ob,xs,z⟩
     ·rw[q] at z;cases z
     ·have z2:=un.frzs b ob _ z
      obtain⟨e1,_⟩:=hok b _ z
      obtain⟨e2,_⟩:=hok' b _ z2
      rw[e] at e1;cases e1
      exact e2
 cases hk:K.lookup a with
 | some o =>
  have e:=KX a o hk
  rw[ha] at e
  cases e
  refine core (fun _=>none) (fun _=>.inl rfl) (.inr ⟨_,vs.toArray,_,hk,rfl,rfl,rfl,by rw[List.size_toArray,lenV];exact hl,by simpa using rv⟩) (fun b u z=>by have z':(none:Option HO)=some u:=z;cases z') (fun b z=>absurd rfl z) fun z=>absurd rfl z
 | none =>
  refine core (fun b=>if b=a then some (.frz { cls:=.type "list",data:=.seq vs.toArray } (.lst (ns.map V.int))) else none) (fun b=>?_) (.inl (.inr ⟨{ cls:=.type "list",data:=.seq vs.toArray },if_pos rfl⟩)) (fun b u z=>?_) (fun b z=>?_) fun _=>hk
  ·by_cases hb:b=a
   ·exact .inr ⟨_,_,if_pos hb⟩
   ·exact .inl (if_neg hb)
  ·by_cases hb:b=a
   ·have z':=(if_pos hb).symm.trans z
    cases z'
    subst hb
    exact⟨ha,by rw[List.length_map];exact hl,vs,_,rv,ha⟩
   ·have z':=(if_neg hb).symm.trans z
    cases z'
  ·by_cases hb:b=a
   ·exact hb
   ·exact absurd (if_neg hb) z
abbrev KOf {K:PySem.W.Frag}{h:Heap} (_:K.In h):PySem.W.Frag:=K
theorem walk_of {l:PySem.W.OpenLaw}{n k:Nat}{q:Program}{loose:List Str}{XP:(Str→Option Value)→Heap→Prop}{YP:World→Heap→Prop}{d:DefRec}{K:Params→PySem.W.Frag}{CX:World→CXT}{sp:World→Sp}{x:Str}
  (hn:l.most=some n) (hn2:n≤sizeLine) (hdf:d.params.defaults=[]) (hr:Room k callerA)
  (hY:∀ (w:World) (h:Heap),YP w h→(K w.params).In h)
  (F:∀ (w:World) (mg:Str→Option Value) (fa:Addr) (h:Heap),(K w.params).In h→h.Ns mainGlobals mg→mg d.name=some (.ref fa) →
   ∃ fd:FuncData,(∀ (s:Shared) (u:Value),BindsTo s fd ⟨[u],[]⟩ [(x,u)]) ∧
    ∀ base:Heap,(K w.params).In base→base.Ns mainGlobals mg→FnOk l.prog w (K w.params) mg base (CX w) k fa fd [x] (sp w))
  (hsp:∀ (w:World) (H:Hp) (a:Addr) (ns:List Int),ns.length≤n→Only H→SqL (K w.params) H a (ns.map V.int)→sp w [.ref a] H (fun v _=>v=.bl true) fun _ _ _=>False)
  (hCX:∀ (w:World) (H:Hp) (s:Shared) (e:Value) (s':Shared),CX w [] H s (fun _ _ _=>False) e s'→False) :
  PySem.W.WalkO q loose XP YP l.row.toRowW d [] (fun f vs=>PySem.call f vs):=by
 refine Att.attach_call hn hdf fun w s₀ s₁ mg mb fa o pm cd doc a vs ns G Y ho hd hcd hmg hobj hints hlen hg=>?_
 have KX:=hY w _ Y
 obtain⟨fd,hb,hF⟩:=F w mg fa _ KX G.T.g hmg
 exact jfk KX G.T.g G.T.b G.T.builtins G.T.nolimit G.T.bmain hg hobj hints (Nat.le_trans hlen hn2) hr hF hb (fun H hO hS=>hsp w H a ns hlen hO hS) fun H e s'=>hCX w H s₁ e s'
def j13 (s:Stmt) (j:Nat):Stmt:=match s with
 | .ClassDef _ _ _ body _ _ _ _ _ _ _=>body.getD j (.Pass ⟨0,0,0,0⟩)
 | _=>.Pass ⟨0,0,0,0⟩
def j0a (s:Stmt):Arguments:=match s with
 | .FunctionDef _ a _ _ _ _ _ _ _ _=>a
 | _=>{ posonlyargs:=[],args:=[],vararg:=none,kwonlyargs:=[],kw_defaults:=[],kwarg:=none,defaults:=[] }
def j09 (s:Stmt):List Stmt:=match s with
 | .FunctionDef _ _ b _ _ _ _ _ _ _=>b
 | _=>[]
def j01 (s:Stmt):Scope:=match s with
 | .FunctionDef _ _ _ _ _ _ sc _ _ _=>sc
 | _=>{ kind:=.function,names:=[],isGenerator:=false,isCoroutine:=false }
abbrev CX0:CXT:=fun _ _ _ _ _ _=>False
abbrev E0:XK:=fun _ _ _=>False
structure Fun (K:PySem.W.Frag) (x qual:Str) (st:Stmt) (f:Addr) (fd:FuncData):Prop where
 ex:∃ (oc:Value) (od:Option Addr) (kV doc pm:Value) (an:Option Addr) (cdv ct:Value) (osl:Array (Option Value)),
  fd=PySem.W.fnOf x qual (j0a st) (j09 st) (j01 st) .none kV doc pm an cdv ct∧K.lookup f=some ⟨oc,od,.func fd,osl⟩∧PySem.W.codeIn K cdv qual=true
 kp:PySem.W.keepIn K (.ref f)=true
section
variable {P:Program}{w:World}{K:PySem.W.Frag}{mg:Str→Option Value}{base:Heap}
theorem Fun.ok {x qual:Str}{st:Stmt}{f:Addr}{fd:FuncData}{N ps:List Str}{k:Nat}{sp:Sp} (F:Fun K x qual st f fd) (S:FnScope N ps (j01 st)) (len:∀ vs H Q E,sp vs H Q E→vs.length=ps.length)
  (hbody:∀ (cdv:Value) (A:Around) (outer:List Env) (s:Shared) (H:Hp) (vs:List V) (Q:VK) (E:XK),Room k (A.deeper (envOfC qual (j01 st) s.heap.objs.size f cdv))→sp vs H Q E →
   ∃ t,PSs (cxOf CX0 P w K mg base N qual (j01 st) f cdv A outer s H E).nox (j09 st) t∧t { nx:=fun _ H'=>Q .non H',rt:=Q } (start N vs) H):FnOk P w K mg base CX0 (k+1) f fd ps sp:=by
 obtain⟨oc,od,kV,doc,pm,an,cdv,ct,osl,rfl,lk,hcd⟩:=F.ex
 refine jm9 lk hcd S len fun A outer s H vs Q E hr hsp=>?_
 obtain⟨t,h,q⟩:=hbody cdv A outer s H vs Q E hr hsp
 exact⟨t,h.nox,q⟩
theorem Fun.binds {x qual:Str}{st:Stmt}{f:Addr}{fd:FuncData}{ps:List Str} (F:Fun K x qual st f fd)
  (h:∀ (kV doc pm:Value) (an:Option Addr) (cdv ct:Value) (us:List Value),us.length=ps.length→bindArgs (PySem.W.fnOf x qual (j0a st) (j09 st) (j01 st) .none kV doc pm an cdv ct) ⟨us,[]⟩=pure (ps.zip us)):Binds K fd ps []:=by
 obtain⟨oc,od,kV,doc,pm,an,cdv,ct,osl,rfl,lk,hcd⟩:=F.ex
 exact .all (h kV doc pm an cdv ct)
theorem j0i {x qual:Str}{st:Stmt}{f:Addr}{oc:Value}{od an:Option Addr}{osl:Array (Option Value)}{kV doc pm cdv ct:Value} (l:K.lookup f=some ⟨oc,od,.func (PySem.W.fnOf x qual (j0a st) (j09 st) (j01 st) .none kV doc pm an cdv ct),osl⟩)
  (c:PySem.W.codeIn K cdv qual=true) (k:PySem.W.keepIn K (.ref f)=true):Fun K x qual st f (PySem.W.fnOf x qual (j0a st) (j09 st) (j01 st) .none kV doc pm an cdv ct):=⟨⟨oc,od,kV,doc,pm,an,cdv,ct,osl,rfl,l,c⟩,k⟩
end
section
variable {X:Cx}
theorem pv (i:Nat) {x:Str}{pos:Pos} (hN:X.N[i]?=some x:=by rfl) (hv:Vis X.env.scope x:=by first | exact Or.inl rfl | exact Or.inr (Or.inl rfl) | exact Or.inr (Or.inr rfl)) (hd:(x == ("__debug__":Str))=false:=by decide)
  (hcd:(x == ("__classdict__":Str))=false:=by decide):PE X (.Name x pos) (tVar i):=jhp hN hv hd hcd
end
theorem iteF {A B:Prop} (h:B):if false=true then A else B:=by
 rw[if_neg Bool.false_ne_true]
 exact h
theorem iteT {A B:Prop} (h:A):if true=true then A else B:=by
 rw[if_pos rfl]
 exact h
def Same (H H':Hp):Prop:=∀ b o,H b=some o→H' b=some o
theorem Same.trans {H H1 H2:Hp} (a:Same H H1) (b:Same H1 H2):Same H H2:=fun c o h=>b c o (a c o h)
theorem Same.free {H H':Hp} (e:Same H H') {l:Addr} (h:H' l=Option.none):H l=Option.none:=by
 cases q:H l with
 | none=>rfl
 | some o =>
  rw[e l o q] at h
  cases h
theorem Same.seq {K:PySem.W.Frag}{H H':Hp}{a:Addr}{xs:List V} (e:Same H H') (h:SqL K H a xs):SqL K H' a xs:=by
 rcases h with (h | ⟨o,h⟩) | h
 ·exact .inl (.inl (e _ _ h))
 ·exact .inl (.inr ⟨o,e _ _ h⟩)
 ·exact .inr h
structure Pass (fs:List Addr) (n:Nat) (H:Hp) (h h':Heap):Prop where
 keep:∀ b o,h.get? b=some o→b∉fs→(b < n∨H b≠none∨∀ vs,o.data≠.fields vs)→h'.get? b=some o
 slot:∀ b o,h.get? b=some o→b∈fs→∃ sl,h'.get? b=some { o with slots:=sl }
 there:∀ b o,h.get? b=some o→∃ o',h'.get? b=some o'
theorem Pass.trans {fs:List Addr}{n:Nat}{H:Hp}{h h1 h2:Heap} (x:Pass fs n H h h1) (y:Pass fs n H h1 h2):Pass fs n H h h2 :=
 ⟨fun b o e f g=>y.keep b o (x.keep b o e f g) f g,fun b o e f=>by
  obtain⟨sl,e1⟩:=x.slot b o e f
  obtain⟨sl2,e2⟩:=y.slot b _ e1 f
  exact⟨sl2,e2⟩,fun b o e=>by
  obtain⟨o1,e1⟩:=x.there b o e
  exact y.there b o1 e1⟩
def Head (n:Nat) (H:Hp) (h:Heap) (a:Addr) (vs:Array Value) (fl:Value):Prop :=
 (vs[1]?=some .none∧fl=.none)∨∃ T oT ts,vs[1]?=some (.ref T)∧n≤T∧H T=none∧T≠a∧h.get? T=some oT∧oT.data=.fields ts∧ts[3]?=some fl
structure Err (n:Nat) (H:Hp) (h:Heap) (a:Addr) (C:Value) (dx:Option Addr) (fl:Value):Prop where
 new:n≤a
 un:H a=none
 obj:∃ oe vs,h.get? a=some oe∧oe.cls=C∧oe.dict=dx∧oe.data=.fields vs∧1 < vs.size∧Head n H h a vs fl
section
variable {X:Cx}{pins:List (Addr × Obj)}{σ:St}{H:Hp}{s:Shared}{h':Heap}
open Classical in
end
theorem Head.mono {n m:Nat}{H:Hp}{h:Heap}{a:Addr}{vs:Array Value}{fl:Value} (x:Head n H h a vs fl) (hm:m≤n):Head m H h a vs fl:=by
 rcases x with x | ⟨T,oT,ts,e1,nT,r⟩
 ·exact .inl x
 ·exact .inr ⟨T,oT,ts,e1,Nat.le_trans hm nT,r⟩
theorem Err.mono {n m:Nat}{H:Hp}{h:Heap}{a:Addr}{C:Value}{dx:Option Addr}{fl:Value} (x:Err n H h a C dx fl) (hm:m≤n):Err m H h a C dx fl:=by
 obtain⟨nw,un,oe,vs,ea,ec,ed,edat,sz,hd⟩:=x
 exact⟨Nat.le_trans hm nw,un,oe,vs,ea,ec,ed,edat,sz,hd.mono hm⟩
def CXE (P:Program) (w:World):CXT:=fun outer H s E e s' =>
 ∃ a C dx H',e=.ref a∧s'.os=s.os∧AllBare s'.gens∧Un (frs outer) [] H H' s.heap s'.heap∧HOk P w H' s'.heap∧Err s.heap.objs.size H' s'.heap a C dx .none∧E C dx H'
theorem passE0 {X:Cx}{P:Program}{w:World}:j4h (CXE P w) X E0:=fun _ _ _ _ _ _ _ h=>by
 obtain⟨_,_,_,_,_,_,_,_,_,_,q⟩:=h
 exact q.elim
section
variable {X:Cx}{E:XK}
structure Own (X:Cx):Prop where
 stk:X.stack=X.env :: X.outer
 frm:X.env.frame=some X.env.locals
 pn:X.pn=[]
end
open PySem.Builtin PySem.Builtin.ObjectAttr
section
variable {X:Cx}{pins:List (Addr × Obj)}{σ:St}{H:Hp}{s:Shared}{a:Addr}{φ:Heap→Prop}
abbrev errH (a:Addr) (C:Value) (dx:Option Addr):HO:=.ext fun h=>∃ o vs,h.get? a=some o∧o.cls=C∧o.dict=dx∧o.data=.fields vs
theorem Inv.held {C:Value}{dx:Option Addr}{fl:Value} (I:Inv X [] σ H s) (hp:X.pn=[]) (er:Err X.s₀.heap.objs.size H s.heap a C dx fl):Inv X [] σ (upd H a (errH a C dx)) s:=by
 obtain⟨new,un,oe,vs,ea,ec,ed,edat,sz,hd⟩:=er
 have ne:∀ b,H b≠none→b≠a:=fun b h q=>by subst q;exact h un
 have keep:∀ c u,H c=some u→upd H a (errH a C dx) c=some u:=fun c u q=>by
  rw[j08 (ne c (by rw[q];simp))];exact q
 have nl:X.env.locals≠a:=fun q=>by
  obtain⟨m,⟨o2,es,ep,e2,d2,_⟩,_⟩:=I.loc
  rw[q,ea] at e2;cases e2
  rw[edat] at d2;cases d2
 have nc:∀ x c,X.env.cells.lookup x=some c→c≠a:=fun x c hc q=>by
  obtain⟨v,o2,e2,d2⟩:=I.cell x c hc
  rw[q,ea] at e2;cases e2
  rw[edat] at d2;cases d2
 refine⟨I.ok,I.os,I.bare,⟨I.base.keep,I.base.slot,fun b o e n hx=>?_,I.base.there,fun b xs q=>keep b _ (I.base.tups b xs q),fun b o u q=>keep b _ (I.base.frzs b o u q),fun b ps q=>?_⟩,
  I.loc,I.cell,by rw[j08 nl];exact I.free,fun x c h=>by rw[j08 (nc x c h)];exact I.freeC x c h,fun p hp'=>?_,fun b o e=>?_,I.len⟩
 ·rw[j08 fun q=>?_]
  ·exact I.base.free b o e n hx
  ·subst q;exact absurd (Heap.lt_size e) (Nat.not_lt.mpr new)
 ·obtain⟨m,e⟩:=I.base.tbls b ps q
  exact⟨m,keep b _ e⟩
 ·rw[hp] at hp';cases hp'
 ·by_cases q:b=a
  ·subst q
   rw[j07] at e
   cases e
   exact⟨⟨oe,vs,ea,ec,ed,edat⟩,⟨oe,ea⟩,fun h1 h2 ⟨o,us,z1,z2⟩ k=>⟨o,us,k _ z1,z2⟩⟩
  ·rw[j08 q] at e
   exact (I.hok b o e).stay (fun c u _ z=>z) (fun c z=>keep c _ z) fun c xs z=>keep c _ z
end
abbrev errN (a C:Addr) (dx:Option Addr):HO:=.ext fun h=>∃ t sl,h.get? a=some ⟨.ref C,dx,.fields #[.ref t,.none,.none,.none,.bool false,.none],sl⟩
structure ErrC (K:PySem.W.Frag) (C:Addr) (bm:List Value):Prop where
 at_:∃ nm q N bs hdct sn sub ab col dd k0 k1 k2 k3 k5 newId,K.lookup C=some (excClassObj nm q C N bs bm hdct sn sub ab col dd k0 k1 k2 k3 k5 newId)
 base:bm.contains (.type "BaseException")=true
structure ErrM (K:PySem.W.Frag) (C f:Addr) (bm bmB:List Value) (B newId initId:String):Prop where
 at_:∃ nm q N bs hdct sn sub ab col dd k0 k1 k2 k3 k5,K.lookup C=some (excClassObj nm q C N bs bm hdct sn sub ab col dd k0 k1 k2 k3 k5 newId)
 facts:ExcBaseFacts B newId initId bmB
 hasB:bm.contains (.type B)=true
 noA:bm.contains (.type "AttributeError")=false
 noN:bm.contains (.type "NameError")=false
 base:bm.contains (.type "BaseException")=true
 init:PySem.W.findIn K (.ref C) "__init__"=some (some (.ref f))
 fn:PySem.W.isFn K (.ref f)=true
 kp:PySem.W.keepIn K (.ref C)=true
structure ErrS (K:PySem.W.Frag) (C:Addr) (f:Str) (bm:List Value):Prop where
 at_:∃ nm q N bs sn sub ab col dd k0 k1 k2 k3 k5 newId,K.lookup C=some (excClassObj nm q C N bs bm true sn sub ab col dd k0 k1 k2 k3 k5 newId)
 passes:∀ x:Addr,refuseLoop (.ref x) "__setattr__" bm=pure ()
 obj:bm.contains (.type "object")=true
 set:PySem.W.findIn K (.ref C) "__setattr__"=some (some (.builtin "object.__setattr__"))
 none:PySem.W.findIn K (.ref C) f=some none
def Ext (H H':Hp):Prop:=∀ b o,H b=some o→H' b=some o
theorem Ext.rfl' {H:Hp}:Ext H H:=fun _ _ h=>h
theorem Ext.tr {H H1 H2:Hp} (a:Ext H H1) (b:Ext H1 H2):Ext H H2:=fun c o h=>b c o (a c o h)
theorem j0j {H:Hp}{p:Addr}{o:HO} (n:H p=none):Ext H (upd H p o):=fun b u h=>by
 rw[j08 (j05 h n)];exact h
theorem Ext.free {H H':Hp} (e:Ext H H') {l:Addr} (h:H' l=none):H l=none:=by
 cases q:H l with
 | none=>rfl
 | some o=>rw[e l o q] at h;cases h
theorem Ext.rd {H H':Hp}{a:Addr}{u:HO} (e:Ext H H') (h:Rd H a u):Rd H' a u:=by
 rcases h with h | ⟨o,h⟩
 ·exact .inl (e _ _ h)
 ·exact .inr ⟨o,e _ _ h⟩
theorem Ext.seqL {K:PySem.W.Frag}{H H':Hp}{a:Addr}{xs:List V} (e:Ext H H') (h:SqL K H a xs):SqL K H' a xs:=h.elim (fun h=>.inl (e.rd h)) .inr
theorem Ext.seqT {K:PySem.W.Frag}{H H':Hp}{a:Addr}{xs:List V} (e:Ext H H') (h:SqT K H a xs):SqT K H' a xs:=h.elim (fun h=>.inl (e.rd h)) .inr
theorem up {H H':Hp}{p:Addr}{o:HO} (e:Ext H H') (h:H p=some o):H' p=some o:=e _ _ h
def But (x:Addr) (H H':Hp):Prop:=∀ b o,b≠x→H b=some o→H' b=some o
theorem But.tr {x:Addr}{H H1 H2:Hp} (a:But x H H1) (b:But x H1 H2):But x H H2:=fun c o n h=>b c o n (a c o n h)
theorem Ext.toBut {x:Addr}{H H1 H2:Hp} (a:Ext H H1) (b:But x H1 H2):But x H H2:=fun c o n h=>b c o n (a c o h)
theorem But.ext {x:Addr}{H H1 H2:Hp} (a:But x H H1) (b:Ext H1 H2):But x H H2:=fun c o n h=>b c o (a c o n h)
theorem Ext.but {x:Addr}{H H1 H2:Hp} (a:Ext H H1) (b:But x H1 H2) (n:H x=none):Ext H H2:=fun c o h=>b c o (j05 h n) (a c o h)
theorem j44 {H:Hp}{p:Addr}{o:HO}:But p H (upd H p o):=fun b u n h=>by rw[j08 n];exact h
inductive Kd where | non | bl | int | str | tup | lst | dct
 deriving DecidableEq
def Kd.ty:Kd→String
 | .non=>"NoneType" | .bl=>"bool" | .int=>"int" | .str=>"str" | .tup=>"tuple" | .lst=>"list" | .dct=>"dict"
def HasK (H:Hp):V→Kd→Prop
 | .non,k=>k=.non
 | .bl _,k=>k=.bl
 | .int _,k=>k=.int
 | .str _,k=>k=.str
 | .ref a,k=>(∃ xs,H a=some (.tup xs)∧k=.tup)∨(∃ xs,H a=some (.lst xs)∧k=.lst)∨(∃ kvs,H a=some (.dK kvs)∧k=.dct)
 | _,_=>False
theorem HasK.t {H:Hp}{a:Addr}{xs:List V} (h:H a=some (.tup xs)):HasK H (.ref a) .tup:=.inl ⟨xs,h,rfl⟩
theorem HasK.l {H:Hp}{a:Addr}{xs:List V} (h:H a=some (.lst xs)):HasK H (.ref a) .lst:=.inr (.inl ⟨xs,h,rfl⟩)
theorem HasK.d {H:Hp}{a:Addr}{kvs:List (Key × V)} (h:H a=some (.dK kvs)):HasK H (.ref a) .dct:=.inr (.inr ⟨kvs,h,rfl⟩)
theorem HasK.mono {H H':Hp}{x:V}{k:Kd} (e:Ext H H') (h:HasK H x k):HasK H' x k:=by
 cases x with
 | ref a =>
  rcases h with⟨xs,h,r⟩ | ⟨xs,h,r⟩ | ⟨xs,h,r⟩
  ·exact .inl ⟨xs,e _ _ h,r⟩
  ·exact .inr (.inl ⟨xs,e _ _ h,r⟩)
  ·exact .inr (.inr ⟨xs,e _ _ h,r⟩)
 | _=>exact h
theorem HasK.tyOf {K:PySem.W.Frag}{H:Hp}{x:V}{k:Kd} (h:HasK H x k):TyOf K H x (.type k.ty):=by
 cases x with
 | non=>cases (show k=.non from h);exact .non
 | bl b=>cases (show k=.bl from h);exact .bl b
 | int b=>cases (show k=.int from h);exact .int b
 | str b=>cases (show k=.str from h);exact .str b
 | ref a =>
  rcases h with⟨xs,h,rfl⟩ | ⟨xs,h,rfl⟩ | ⟨xs,h,rfl⟩
  ·exact .tup h
  ·exact .lst h
  ·exact .dK h
 | _=>exact (show False from h).elim
inductive D where
 | non | bl (b:Bool) | int (i:Int) | str (x:Str) | tup (l:List D) | lst (l:List D) | dct
def D.kd:D→Kd
 | .non=>.non | .bl _=>.bl | .int _=>.int | .str _=>.str | .tup _=>.tup | .lst _=>.lst | .dct=>.dct
mutual
def Rep (H:Hp):D→V→Prop
 | .non,v=>v=.non
 | .bl b,v=>v=.bl b
 | .int i,v=>v=.int i
 | .str x,v=>v=.str x
 | .tup l,v=>∃ p xs,v=.ref p∧H p=some (.tup xs)∧RepL H l xs
 | .lst l,v=>∃ p xs,v=.ref p∧H p=some (.lst xs)∧RepL H l xs
 | .dct,v=>∃ p kvs,v=.ref p∧H p=some (.dK kvs)
def RepL (H:Hp):List D→List V→Prop
 | [],xs=>xs=[]
 | d :: r,xs=>∃ x t,xs=x :: t∧Rep H d x∧RepL H r t
end
def jic:HO→Bool
 | .tup _=>true | .lst _=>true | .dK _=>true | _=>false
def Kp (H H':Hp):Prop:=∀ b o,H b=some o→jic o=true→H' b=some o
theorem Ext.kp {H H':Hp} (e:Ext H H'):Kp H H':=fun b o h _=>e b o h
theorem Kp.tr {H H1 H2:Hp} (a:Kp H H1) (b:Kp H1 H2):Kp H H2:=fun c o h d=>b c o (a c o h d) d
theorem Kp.but {H H':Hp}{x C dx:Addr}{fs:List (Str × V)} (hx:H x=some (.ins C dx fs)) (b:But x H H'):Kp H H':=fun c o h d=>b c o (fun z=>by subst z;rw[hx] at h;cases h;cases d) h
mutual
theorem Rep.keep' {H H':Hp} (e:Kp H H'):∀ (d:D) {v:V},Rep H d v→Rep H' d v
 | .non,_,h=>by unfold Rep at h ⊢;exact h
 | .bl _,_,h=>by unfold Rep at h ⊢;exact h
 | .int _,_,h=>by unfold Rep at h ⊢;exact h
 | .str _,_,h=>by unfold Rep at h ⊢;exact h
 | .tup l,_,h=>by unfold Rep at h ⊢;obtain⟨p,xs,h1,h2,h3⟩:=h;exact⟨p,xs,h1,e _ _ h2 rfl,RepL.keep' e l h3⟩
 | .lst l,_,h=>by unfold Rep at h ⊢;obtain⟨p,xs,h1,h2,h3⟩:=h;exact⟨p,xs,h1,e _ _ h2 rfl,RepL.keep' e l h3⟩
 | .dct,_,h=>by unfold Rep at h ⊢;obtain⟨p,xs,h1,h2⟩:=h;exact⟨p,xs,h1,e _ _ h2 rfl⟩
theorem RepL.keep' {H H':Hp} (e:Kp H H'):∀ (l:List D) {xs:List V},RepL H l xs→RepL H' l xs
 | [],_,h=>by unfold RepL at h ⊢;exact h
 | d :: r,_,h=>by unfold RepL at h ⊢;obtain⟨x,t,h1,h2,h3⟩:=h;exact⟨x,t,h1,Rep.keep' e d h2,RepL.keep' e r h3⟩
end
theorem Rep.keep {H H':Hp}{d:D}{v:V} (h:Rep H d v) (e:Kp H H'):Rep H' d v:=Rep.keep' e d h
theorem RepL.keep {H H':Hp}{d:List D}{v:List V} (h:RepL H d v) (e:Kp H H'):RepL H' d v:=RepL.keep' e d h
theorem Rep.mono {H H':Hp}{d:D}{v:V} (h:Rep H d v) (e:Ext H H'):Rep H' d v:=h.keep e.kp
theorem RepL.mono {H H':Hp}{d:List D}{v:List V} (h:RepL H d v) (e:Ext H H'):RepL H' d v:=h.keep e.kp
theorem RepL.length {H:Hp}:∀ {l:List D}{xs:List V},RepL H l xs→l.length=xs.length
 | [],_,h=>by unfold RepL at h;rw[h];rfl
 | d :: r,_,h=>by unfold RepL at h;obtain⟨x,t,rfl,_,h3⟩:=h;rw[List.length_cons,List.length_cons,RepL.length h3]
theorem RepL.get {H:Hp}:∀ {l:List D}{xs:List V}{i:Nat}{x:V},RepL H l xs→xs[i]?=some x→∃ d,l[i]?=some d∧Rep H d x
 | [],_,i,x,h,e=>by unfold RepL at h;subst h;simp at e
 | d :: r,_,0,x,h,e=>by unfold RepL at h;obtain⟨y,t,rfl,h2,_⟩:=h;simp at e;subst e;exact⟨d,rfl,h2⟩
 | d :: r,_,i+1,x,h,e=>by unfold RepL at h;obtain⟨y,t,rfl,_,h3⟩:=h;obtain⟨z,z1,z2⟩:=RepL.get (i:=i) h3 (by simpa using e);exact⟨z,by simpa using z1,z2⟩
theorem RepL.nil {H:Hp}:RepL H [] []:=by unfold RepL;rfl
theorem RepL.cons {H:Hp}{d:D}{x:V}{l:List D}{xs:List V} (h:Rep H d x) (t:RepL H l xs):RepL H (d :: l) (x :: xs):=by unfold RepL;exact⟨x,xs,rfl,h,t⟩
theorem Rep.intI {H:Hp}{i:Int}:Rep H (.int i) (.int i):=by unfold Rep;rfl
theorem Rep.strI {H:Hp}{b:Str}:Rep H (.str b) (.str b):=by unfold Rep;rfl
theorem Rep.tupI {H:Hp}{p:Addr}{xs:List V}{l:List D} (h:H p=some (.tup xs)) (r:RepL H l xs):Rep H (.tup l) (.ref p):=by unfold Rep;exact⟨p,xs,rfl,h,r⟩
theorem Rep.lstI {H:Hp}{p:Addr}{xs:List V}{l:List D} (h:H p=some (.lst xs)) (r:RepL H l xs):Rep H (.lst l) (.ref p):=by unfold Rep;exact⟨p,xs,rfl,h,r⟩
theorem RepL.ints {H:Hp}:∀ ns:List Int,RepL H (ns.map D.int) (ns.map V.int)
 | []=>.nil
 | _ :: r=>.cons .intI (RepL.ints r)
theorem Rep.kd {H:Hp}{d:D}{v:V} (h:Rep H d v):HasK H v d.kd:=by
 cases d with
 | tup l=>unfold Rep at h;obtain⟨p,xs,rfl,h,_⟩:=h;exact .t h
 | lst l=>unfold Rep at h;obtain⟨p,xs,rfl,h,_⟩:=h;exact .l h
 | dct=>unfold Rep at h;obtain⟨p,xs,rfl,h⟩:=h;exact .d h
 | _=>unfold Rep at h;subst h;exact rfl
mutual
def D.fine:D→Bool
 | .tup l=>D.fineL l
 | .lst l=>D.fineL l
 | .dct=>false
 | _=>true
def D.fineL:List D→Bool
 | []=>true
 | d :: r=>d.fine && D.fineL r
def D.depth:D→Nat
 | .tup l=>D.depthL l+1
 | .lst l=>D.depthL l+1
 | _=>0
def D.depthL:List D→Nat
 | []=>0
 | d :: r=>max d.depth (D.depthL r)
end
theorem j6o:∀ {l:List D}{i:Nat}{d:D},D.fineL l=true→l[i]?=some d→d.fine=true
 | [],_,_,_,e=>by simp at e
 | x :: r,0,d,h,e=>by simp at e;subst e;unfold D.fineL at h;exact (Bool.and_eq_true_iff.mp h).1
 | x :: r,i+1,d,h,e=>by unfold D.fineL at h;exact j6o (Bool.and_eq_true_iff.mp h).2 (by simpa using e)
theorem j4l:∀ {l:List D}{n i:Nat}{d:D},D.depthL l≤n→l[i]?=some d→d.depth≤n
 | [],_,_,_,_,e=>by simp at e
 | x :: r,n,0,d,h,e=>by simp at e;subst e;unfold D.depthL at h;omega
 | x :: r,n,i+1,d,h,e=>by unfold D.depthL at h;exact j4l (l:=r) (by omega) (by simpa using e)
theorem Rep.but {H H':Hp}{x:Addr}{C dx:Addr}{fs:List (Str × V)} (hx:H x=some (.ins C dx fs)) (b:But x H H') {d:D}{v:V} (h:Rep H d v):Rep H' d v:=h.keep (Kp.but hx b)
abbrev CXU (P:Program) (w:World):CXT:=CXE P w
theorem j0x {X:Cx}{P:Program}{w:World}:j4h (CXU P w) X E0:=passE0
theorem noneU {P:Program}:∀ (w:World) (H:Hp) (s:Shared) (e:Value) (s':Shared),CXU P w [] H s (fun _ _ _=>False) e s'→False:=fun _ _ _ _ _ h=>by
 obtain⟨_,_,_,_,_,_,_,_,_,_,q⟩:=h
 exact q
theorem FnOk.no {P:Program}{w:World}{K:PySem.W.Frag}{mg:Str→Option Value}{base:Heap}{CX:CXT}{k:Nat}{f:Addr}{fd:FuncData}{ps:List Str}:FnOk P w K mg base CX k f fd ps (fun _ _ _ _=>False) :=
 ⟨fun _ _ _ _ h=>h.elim,fun _ _ _ _ _ _ _ _ _ _ _ _ _ h=>h.elim⟩
section
variable {P:Program}{w:World}{K:PySem.W.Frag}{mg:Str→Option Value}{base:Heap}
theorem Fun.okU {x qual:Str}{st:Stmt}{f:Addr}{fd:FuncData}{N ps:List Str}{k:Nat}{sp:Sp} (F:Fun K x qual st f fd) (S:FnScope N ps (j01 st)) (len:∀ vs H Q E,sp vs H Q E→vs.length=ps.length)
  (hbody:∀ (cdv:Value) (A:Around) (outer:List Env) (s:Shared) (H:Hp) (vs:List V) (Q:VK) (E:XK),Room k (A.deeper (envOfC qual (j01 st) s.heap.objs.size f cdv))→sp vs H Q E →
   ∃ t,PSs (cxOf (CXU P w) P w K mg base N qual (j01 st) f cdv A outer s H E).nox (j09 st) t∧t { nx:=fun _ H'=>Q .non H',rt:=Q } (start N vs) H):FnOk P w K mg base (CXU P w) (k+1) f fd ps sp:=by
 obtain⟨oc,od,kV,doc,pm,an,cdv,ct,osl,rfl,lk,hcd⟩:=F.ex
 refine jm9 lk hcd S len fun A outer s H vs Q E hr hsp=>?_
 obtain⟨t,h,q⟩:=hbody cdv A outer s H vs Q E hr hsp
 exact⟨t,h.nox,q⟩
end
abbrev ib:Int→Nat:=Builtin.Int.intBits
theorem j8w {ns:List Int} (h:PySem.W.WData.layableAll [.list (ns.map .int)]=true):∀ z∈ns,ib z≤1048576:=fun z hz=>by
 have h1:=PySem.W.layableW_arg h _ (List.mem_singleton.mpr rfl)
 have h2:=PySem.W.layableW_item h1 (.int z) (List.mem_map.mpr ⟨z,hz,rfl⟩)
 have h3:=(PySem.W.layableW_iff.mp h2).2.2
 simpa[PySem.W.WData.weight,ib,Builtin.Int.intBits] using h3
end L2
namespace L2
open PySem PySem.W PySem.Calls PyProof.Rows
theorem j6p {l:OpenLaw}{n:Nat}{q:Program}{loose:List Str}{XP:(Str→Option Value)→Heap→Prop}{YP:World→Heap→Prop}{d:DefRec}
  (hn:l.most=some n) (hdf:d.params.defaults=[])
  (call:∀ (w:World) (s₀ s₁:Shared) (mg mb:Str→Option Value) (fa:Addr) (o:Obj) (pm cd doc:Value) (a:Addr) (vs:List Value) (ns:List Int),
   Ground q loose [] XP w s₀ mg mb s₁.heap→YP w s₁.heap →
   s₁.heap.get? fa=some o→o.data=.func (docDef d.name d.params d.body d.scope pm cd doc)→s₁.heap.CodeRec cd d.name→mg d.name=some (.ref fa) →
   s₁.heap.get? a=some { cls:=.type "list",data:=.seq vs.toArray }→IntsAre vs ns→ns.length≤n→(∀ z∈ns,ib z≤1048576)→s₁.gens=#[] →
   codeAny (model l.prog w) callerA (.call (.ref fa) ⟨[.ref a],[]⟩) (fun r s'=>r=.ok (.ret (.bool true))∧OldK s₁.heap s'.heap∧s'.os=s₁.os∧AllBare s'.gens) s₁) :
  WalkO q loose XP YP l.row.toRowW d [] (fun f vs=>PySem.call f vs):=by
 intro w s₀ s₁ mg mb G Y fa o pm cd doc dV kV ho hd hcd hD hmg hg args vals as hpre hlay hrd hwl hlo
 obtain rfl:dV=.none:=Dflts.none hD hdf
 obtain rfl:kV=.none:=Dflts.noKw hD
 obtain⟨a,vs,ns,rfl,rfl,hobj,hints,hlen⟩:=Att.script_of hn hpre hwl
 refine enter_call (codeAny_mono (call w s₀ s₁ mg mb fa o pm cd doc a vs ns G Y ho (fd_plain hd) hcd hmg hobj hints hlen (j8w hlay) hg) fun r s' hq=>?_)
 obtain⟨rfl,h2,h3,h4⟩:=hq
 exact⟨.inl ⟨.bool true,.bool true,[],rfl,fun _=>rfl,.bool true,Att.post_true l _,fun _=>⟨List.Pairwise.nil,fun _ hm=>(nomatch hm)⟩⟩,h2,h3,h4⟩
section
variable {X:Cx}
def CMulB (i j:Int):Prop:=(-18446744073709551616 < i∧i < 18446744073709551616)∨(-18446744073709551616 < j∧j < 18446744073709551616)∨IntMulOk i j
theorem CMulB.ok {i j:Int} (h:CMulB i j):IntMulOk i j:=by
 rcases h with⟨h1,h2⟩ | ⟨h1,h2⟩ | h
 ·exact .of_left (intBits_le_64 (by omega) (by omega))
 ·exact .of_right (intBits_le_64 (by omega) (by omega))
 ·exact h
theorem jid:OpR X (binaryOp .Mult) (rI CMulB fun i j=>.int (i * j)):=opI fun _ _ _ _ _ _ _ hc q=>mul_int q hc.ok
def CDivB (i j:Int):Prop:=0 < j∧j < 1000000000000000000000000000000000000000000000000000000000000
theorem CDivB.no {i j:Int} (h:CDivB i j):Builtin.divisionGoesByPylong i j=false:=by
 refine PyProof.noPylong_of_log2 ?_
 have h1:=h.1
 have h2:=h.2
 have h0:j.natAbs≠0:=by omega
 refine (Nat.log2_lt h0).mpr ?_
 have e:(1000000000000000000000000000000000000000000000000000000000000:Nat) < 2 ^ 9000:=by decide +kernel
 omega
theorem j6q:OpR X (binaryOp .FloorDiv) (rI CDivB fun i j=>.int (i / j)):=opI fun i j _ _ _ _ _ hc q=>by
 have h1:=hc.1
 exact floordiv_int (by omega) (by rw[Int.fdiv_eq_ediv_of_nonneg i (by omega)];exact q) (.inl hc.no)
def jhh (K:PySem.W.Frag):List V→Hp→VK→Prop:=fun xs H Q=>∃ x t b,((∃ n,xs=[x,.ty n]∧PySem.W.kitOne K t (.type n)=some b)∨∃ C,xs=[x,.ref C]∧PySem.W.kitOne K t (.ref C)=some b)∧TyOf K H x t∧Q (.bl b) H
theorem j57:CallR X (.builtin "isinstance") (jhh X.K):=by
 intro pins s σ H xs us Q I r h
 obtain⟨x,t,b,hx,ty,q⟩:=h
 rcases hx with⟨n,rfl,e⟩ | ⟨n,rfl,e⟩
 ·obtain⟨u,w',rfl,ru,rw'⟩:=jhv r
  obtain rfl:w'=Value.type n:=rw'
  exact j7o I ru ty e fun tk=>⟨.bl b,H,I.tok _,rfl,q⟩
 ·obtain⟨u,w',rfl,ru,rw'⟩:=jhv r
  obtain rfl:w'=Value.ref n:=rw'
  exact j7o I ru ty e fun tk=>⟨.bl b,H,I.tok _,rfl,q⟩
theorem jie {K:PySem.W.Frag} (k:Kd):PySem.W.kitOne K (.type k.ty) (.type "int")=some (k == .int || k == .bl):=by cases k <;> rfl
theorem jfl {K:PySem.W.Frag} (k:Kd):PySem.W.kitOne K (.type k.ty) (.type "bool")=some (k == .bl):=by cases k <;> rfl
theorem jif {K:PySem.W.Frag} (k:Kd):PySem.W.kitOne K (.type k.ty) (.type "str")=some (k == .str):=by cases k <;> rfl
theorem jct {K:PySem.W.Frag} (k:Kd):PySem.W.kitOne K (.type k.ty) (.type "tuple")=some (k == .tup):=by cases k <;> rfl
theorem jfm {K:PySem.W.Frag} (k:Kd):PySem.W.kitOne K (.type k.ty) (.type "list")=some (k == .lst):=by cases k <;> rfl
def rMax2:List V→Hp→VK→Prop:=fun xs H Q=>∃ i j,xs=[.int i,.int j]∧Q (.int (max i j)) H
theorem cMax2 (hc:X.calm=true):CallR X (.builtin "max") rMax2:=by
 intro pins s σ H xs us Q I r h
 obtain⟨i,j,rfl,q⟩:=h
 refine jck hc pins s σ H _ us Q I r ⟨i,j,rfl,?_⟩
 have e:(if j > i then j else i)=max i j:=by split <;> omega
 rw[e];exact q
def rMin2:List V→Hp→VK→Prop:=fun xs H Q=>∃ i j,xs=[.int i,.int j]∧Q (.int (min i j)) H
theorem cMin2 (hc:X.calm=true):CallR X (.builtin "min") rMin2:=by
 intro pins s σ H xs us Q I r h
 obtain⟨i,j,rfl,q⟩:=h
 refine jcl hc pins s σ H _ us Q I r ⟨i,j,rfl,?_⟩
 have e:(if j < i then j else i)=min i j:=by split <;> omega
 rw[e];exact q
def rInt1:List V→Hp→VK→Prop:=fun xs H Q=>(∃ i,xs=[.int i]∧Q (.int i) H)∨∃ k,xs=[.bl k]∧Q (.int (if k then 1 else 0)) H
theorem cInt1:CallR X (.type "int") rInt1:=jcm
def rLen (K:PySem.W.Frag):List V→Hp→VK→Prop:=fun xs H Q=>∃ x n,xs=[x]∧LenV K x H n∧Q (.int n) H
theorem cLen:CallR X (.builtin "len") (rLen X.K):=jfb
def jmn (K:PySem.W.Frag):List V→Hp→VK→Prop:=fun xs H Q=>∃ p ys,xs=[.ref p]∧(SqL K H p ys∨SqT K H p ys)∧∀ l,H l=none→Q (.ref l) (upd H l (.lst ys))
theorem jhi:CallR X (.type "list") (jmn X.K):=j6m
def jig (K:PySem.W.Frag):List V→Hp→VK→Prop:=fun xs H Q=>∃ p ys,xs=[.ref p]∧((SqL K H p ys∧∀ l,H l=none→Q (.ref l) (upd H l (.tup ys)))∨(SqT K H p ys∧Q (.ref p) H))
theorem ja4:CallR X (.type "tuple") (jig X.K):=j5m
def rInU (K:PySem.W.Frag) (neg:Bool):R2:=rIn K neg
theorem oIn:OpR X (compareOp .In) (rInU X.K false):=jcq
theorem j8x:OpR X (compareOp .NotIn) (rInU X.K true):=j6k
def rIsNo:R2:=fun x y H Q=>y=.non∧Q (.bl (decide (x=.non))) H
def jih:R2:=fun x y H Q=>y=.non∧Q (.bl (!decide (x=.non))) H
theorem oIsN:OpR X (compareOp .Is) rIsNo:=op_isN
theorem oNotN:OpR X (compareOp .IsNot) jih:=jhu
theorem oIx:IxR X (rIx X.K):=ix_seq
def rSlU (K:PySem.W.Frag):V→Option Int→Option Int→Hp→VK→Prop:=fun x lo hi H Q=>rSlT K x lo hi H Q∨rSlL K x lo hi H Q
theorem oSl:SlR X (rSlU X.K):=sl_tup.or jln
def tTru (K:PySem.W.Frag) (ta:TE):TT:=fun σ H Q=>ta σ H fun x H'=>∃ k,TruV K x H' k∧Q k H'
theorem ptT {a:Expr}{ta:TE} (ha:PE X a ta) (he:∀ whole,isTrue a X.env whole=(do let v ← whole;standAt a.pos;holding [v] (truthy v))):PT X a (tTru X.K ta):=jfa ha he
structure CMeth (K:PySem.W.Frag) (C:Addr) (m:Str) (f:Addr):Prop where
 ga:PySem.W.specialIn K (.ref C) "__getattribute__"=some (some (.builtin "type.__getattribute__"))
 rd:PySem.W.readsIn K C (.type "type")=true
 at_:PySem.W.findCls K (.ref C) (.type "type") m=some (.val (.ref f))
 kp:PySem.W.keepIn K (.ref f)=true
def jii (C:Addr) (sp:Sp) (dvs:List V) (E:XK) (ta:TE) (t:TA):TE:=fun σ H Q=>ta σ H fun x H1=>x=.ref C∧t σ H1 fun vs H2=>sp (vs++dvs) H2 Q E
theorem jfn {CX:CXT}{k:Nat}{f C:Addr}{fd:FuncData}{ps:List Str}{sp:Sp}{dvs:List V}{ds:List Value}{E:XK}{m:Str}{pos apos:Pos}{e o:Expr}{es:List Expr}{ta:TE}{t:TA}{pl:Sem Bool}
  (he:PE X o ta) (hm:CMeth X.K C m f) (F:FnOk X.prog X.w X.K X.mg X.base CX k f fd ps sp) (hr:Room k X.A) (hb:Binds X.K fd ps ds) (hd:Vals dvs ds) (hx:j4h CX X E) (ha:PA X (e :: es) t)
  (hst:starEach (e :: es) X.env=(false,eval e X.env) :: starEach es X.env:=by rfl) (hpl:(backTo pos (starEach es X.env)).any (·.1)=false:=by rfl)
  (ht:eval (.Call (.Attribute o m apos) (e :: es) [] pos) X.env=(do
   let ov ← eval o X.env
   standAt apos.atName
   let (f,first) ← holding [ov] (getMethod ov m pl)
   callWith pos f first (backTo pos (starEach (e :: es) X.env)) (backToKw pos (keywordEach [] X.env))):=by rfl) :
  PE X (.Call (.Attribute o m apos) (e :: es) [] pos) (jii C sp dvs E ta t):=by
 intro pins s σ H Q I h
 refine PySem.W.methodCall_KW (pl:=pl) (thn (he pins s σ H _ I h) fun u s1 ⟨x,H1,I1,rx,ex,q⟩=>?_) ht
 subst ex
 obtain rfl:u=Value.ref C:=rx
 refine PySem.W.method_cls I1.kIn hm.ga (PySem.W.cls_value I1.kIn hm.rd hm.at_ (j7m (v:=.ref f) rfl) ?_)
 refine PySem.W.callWith_K (first:=[]) (h₀:=X.base) I.ok.mod.kin hm.kp (thn (ha pos pins _ σ H1 _ (I1.tok _) q) fun us s2 ⟨vs,H2,I2,r,q2⟩=>⟨I2.kIn,?_⟩) hst hpl
 exact jco (us:=us) (vs:=vs) F hr hb hd hx I2 r q2
end
section
variable {X:Cx}{pins:List (Addr × Obj)}{σ:St}{H:Hp}{s:Shared}{h':Heap}
theorem Inv.turnLaid {t':Nat}{ch:List Addr}{a:Addr}{o:HO} (I:Inv X pins σ H s) (k:∀ b u,b∉ch→s.heap.get? b=some u→h'.get? b=some u) (hf:∀ b∈ch,FpOk X pins H b)
  (hp:s.heap.objs.size≤a) (new:ObjOk X.prog X.w (upd H a o) h' a o):Inv X pins σ (upd H a o) { s with heap:=h',toks:=t' }:=by
 have hn:H a=none:=I.hok.fresh hp
 have nit:∀ b u,H b=some u→b∉ch:=fun b u e z=>by rw[(hf b z).1] at e;cases e
 have old:∀ b u,H b=some u→upd H a o b=some u:=fun b u e=>by rw[j08 (j05 e hn)];exact e
 refine I.step (g':=s.gens) (d':=s.drawn) (ch:=ch) (fun b hb=>?_) (fun b u _ _ hc e _=>k b u hc e) (fun b u _ _ hc e _=>⟨u.slots,k b u hc e⟩) (fun b u _ e n=>?_)
  (fun b u hc e=>⟨u,k b u hc e⟩) (fun b xs e=>old _ _ e) (fun b _ _ e=>old _ _ e) (fun b ps e=>⟨#[],by rw[old _ _ e];simp⟩) (fun m hm=>?_) (fun b u e=>?_) I.bare
 ·obtain⟨_,f1,_,f3,f4,f5⟩:=hf b hb
  exact⟨f3,f1,f4,f5⟩
 ·rw[j08 (fun z=>by subst z;exact absurd (Heap.lt_size e) (Nat.not_lt.mpr hp))];exact n
 ·obtain⟨ol,es,ep,ho,r⟩:=hm
  exact⟨ol,es,ep,k _ ol (fun z=>(hf _ z).2.1 rfl) ho,r⟩
 ·by_cases hb:b=a
  ·subst hb;rw[j07] at e;cases e;exact new
  ·rw[j08 hb] at e
   refine (I.hok b u e).stay (fun c v hc q=>k c v ?_ q) (fun c q=>old _ _ q) fun c xs q=>old _ _ q
   rcases hc with z | z
   ·rw[z];exact nit b u e
   ·exact nit c _ z
theorem Inv.turns {t':Nat}{ch:List Addr} (I:Inv X pins σ H s) (k:∀ b u,b∉ch→s.heap.get? b=some u→h'.get? b=some u) (hf:∀ b∈ch,FpOk X pins H b):Inv X pins σ H { s with heap:=h',toks:=t' }:=by
 have nit:∀ b u,H b=some u→b∉ch:=fun b u e z=>by rw[(hf b z).1] at e;cases e
 refine I.step (g':=s.gens) (d':=s.drawn) (ch:=ch) (fun b hb=>?_) (fun b u _ _ hc e _=>k b u hc e) (fun b u _ _ hc e _=>⟨u.slots,k b u hc e⟩) (fun b u _ e n=>n)
  (fun b u hc e=>⟨u,k b u hc e⟩) (fun b xs e=>e) (fun b _ _ e=>e) (fun b ps e=>⟨#[],by rw[e];simp⟩) (fun m hm=>?_) (fun b u e=>?_) I.bare
 ·obtain⟨_,f1,_,f3,f4,f5⟩:=hf b hb
  exact⟨f3,f1,f4,f5⟩
 ·obtain⟨ol,es,ep,ho,r⟩:=hm
  exact⟨ol,es,ep,k _ ol (fun z=>(hf _ z).2.1 rfl) ho,r⟩
 ·refine (I.hok b u e).stay (fun c v hc q=>k c v ?_ q) (fun c q=>q) fun c xs q=>q
  rcases hc with z | z
  ·rw[z];exact nit b u e
  ·exact nit c _ z
end
section
variable {K:PySem.W.Frag}{σ:St}{H:Hp}{Q:VK}{D:Ends}
theorem r_var {i:Nat}{v:V} (h:σ[i]?=some (some v)) (q:Q v H):tVar i σ H Q:=⟨v,h,q⟩
theorem r_c {v:V} (q:Q v H):tC v σ H Q:=q
theorem r_op {r:R2}{ta tb:TE} (q:ta σ H fun x H1=>tb σ H1 fun y H2=>r x y H2 Q):tOp r ta tb σ H Q:=q
theorem r_seq {t u:TS} (q:t { D with nx:=u D } σ H):tSeq t u D σ H:=q
theorem r_asg {te:TE}{g:TG} (q:te σ H fun x H1=>g x σ H1 D.nx):tAsg te g D σ H:=q
theorem jij {i:Nat}{v:V}{R:St→Hp→Prop} (q:R (σ.set i (some v)) H):jcf i v σ H R:=q
theorem r_if {c:TT}{t u:TS} (q:c σ H fun b H1=>if b=true then t D σ H1 else u D σ H1):tIfS c t u D σ H:=q
theorem r_test {t:TE}{R:Bool→Hp→Prop} (q:t σ H fun x H'=>∃ k,x=.bl k∧R k H'):jm6 t σ H R:=q
theorem r_bl {b:Bool}{R:Bool→Prop} (q:R b):∃ k,V.bl b=.bl k∧R k:=⟨b,rfl,q⟩
theorem r_I0 {g:Int→Int→V}{i j:Int} (q:Q (g i j) H):rI0 g (.int i) (.int j) H Q:=⟨i,j,rfl,rfl,q⟩
theorem r_I {C:Int→Int→Prop}{g:Int→Int→V}{i j:Int} (c:C i j) (q:Q (g i j) H):rI C g (.int i) (.int j) H Q:=⟨i,j,rfl,rfl,c,q⟩
theorem r_eqI {i j:Int} (q:Q (.bl (decide (i=j))) H):rEq (.int i) (.int j) H Q:=⟨rfl,by
 rw[show decide (V.int i=V.int j)=decide (i=j) from decide_eq_decide.mpr ⟨fun z=>by cases z;rfl,fun z=>by rw[z]⟩];exact q⟩
theorem r_neI {i j:Int} (q:Q (.bl (!decide (i=j))) H):rNe (.int i) (.int j) H Q:=⟨rfl,by
 rw[show decide (V.int i=V.int j)=decide (i=j) from decide_eq_decide.mpr ⟨fun z=>by cases z;rfl,fun z=>by rw[z]⟩];exact q⟩
theorem r_eqB {i j:Bool} (q:Q (.bl (decide (i=j))) H):rEq (.bl i) (.bl j) H Q:=⟨rfl,by
 rw[show decide (V.bl i=V.bl j)=decide (i=j) from decide_eq_decide.mpr ⟨fun z=>by cases z;rfl,fun z=>by rw[z]⟩];exact q⟩
theorem r_eqS {i j:Str} (q:Q (.bl (decide (i=j))) H):rEq (.str i) (.str j) H Q:=⟨rfl,by
 rw[show decide (V.str i=V.str j)=decide (i=j) from decide_eq_decide.mpr ⟨fun z=>by cases z;rfl,fun z=>by rw[z]⟩];exact q⟩
theorem r_ret {te:TE} (q:te σ H D.rt):tRet te D σ H:=q
theorem r_next (q:D.nx σ H):tNext D σ H:=q
theorem r_drop {te:TE} (q:te σ H fun _ H1=>D.nx σ H1):tDrop te D σ H:=q
theorem r_not {t:TT}{R:Bool→Hp→Prop} (q:t σ H fun c H1=>R (!c) H1):tNot t σ H R:=q
theorem jik {te:TE}{R:Bool→Hp→Prop} (q:te σ H fun x H'=>∃ k,TruV K x H' k∧R k H'):tTru K te σ H R:=q
theorem r_blT {b:Bool}{R:Bool→Prop} (q:R b):∃ k,TruV K (.bl b) H k∧R k:=⟨b,rfl,q⟩
theorem r_and {t u:TT}{R:Bool→Hp→Prop} (q:t σ H fun c H1=>if c=true then u σ H1 R else R false H1):tAnd t u σ H R:=q
theorem r_or {t u:TT}{R:Bool→Hp→Prop} (q:t σ H fun c H1=>if c=true then R true H1 else u σ H1 R):tOr t u σ H R:=q
theorem r_andV {ta tb:TE} (q:ta σ H fun x H1=>∃ c,x=.bl c∧if c=true then tb σ H1 Q else Q (.bl false) H1):tAndV ta tb σ H Q:=q
theorem r_notV {ta:TE} (q:ta σ H fun x H1=>∃ c,x=.bl c∧Q (.bl (!c)) H1):tNotV ta σ H Q:=q
theorem jil {r r':R2}{ta tb tc:TE} (q:ta σ H fun x H1=>tb σ H1 fun y H2=>r x y H2 fun z H3=>∃ k,z=.bl k∧if k=true then tc σ H3 fun w H4=>r' y w H4 Q else Q (.bl false) H3):jf8 r r' ta tb tc σ H Q:=q
theorem r_un {r:V→Hp→VK→Prop}{ta:TE} (q:ta σ H fun x H1=>r x H1 Q):tUn r ta σ H Q:=q
theorem r_rU {g:Int→V}{i:Int} (q:Q (g i) H):rU g (.int i) H Q:=⟨i,rfl,q⟩
theorem r_call {sp:Sp}{dvs:List V}{E:XK}{t:TA} (q:t σ H fun vs H1=>sp (vs++dvs) H1 Q E):tCall sp dvs E t σ H Q:=q
theorem r_cb {r:List V→Hp→VK→Prop}{t:TA} (q:t σ H fun vs H1=>r vs H1 Q):tCB r t σ H Q:=q
theorem r_cons {ta:TE}{tr:TA}{R:List V→Hp→Prop} (q:ta σ H fun x H1=>tr σ H1 fun xs H2=>R (x :: xs) H2):tCons ta tr σ H R:=q
theorem r_nil {R:List V→Hp→Prop} (q:R [] H):tNil σ H R:=q
theorem r_meth {C:Addr}{m:Str}{sp:Sp}{dvs:List V}{E:XK}{ta:TE}{t:TA} (q:ta σ H fun x H1=>∃ a dx fs,x=.ref a∧H1 a=some (.ins C dx fs)∧fs.lookup m=none∧t σ H1 fun vs H2=>sp (x :: (vs++dvs)) H2 Q E):jm8 C m sp dvs E ta t σ H Q:=q
theorem r_self {C:Addr}{m:Str}{sp:Sp}{dvs:List V}{E:XK}{t:TA}{a dx:Addr}{fs:List (Str × V)} (h:H a=some (.ins C dx fs)) (l:fs.lookup m=none) (q:t σ H fun vs H2=>sp (.ref a :: (vs++dvs)) H2 Q E) :
  ∃ b dx fs,V.ref a=.ref b∧H b=some (.ins C dx fs)∧fs.lookup m=none∧t σ H fun vs H2=>sp (.ref a :: (vs++dvs)) H2 Q E:=⟨a,dx,fs,rfl,h,l,q⟩
theorem jim {C:Addr}{sp:Sp}{dvs:List V}{E:XK}{ta:TE}{t:TA} (q:ta σ H fun x H1=>x=.ref C∧t σ H1 fun vs H2=>sp (vs++dvs) H2 Q E):jii C sp dvs E ta t σ H Q:=q
theorem jin {C:Addr}{R:Prop} (q:R):V.ref C=.ref C∧R:=⟨rfl,q⟩
theorem r_make {C:Addr}{sp:Sp}{dvs:List V}{E:XK}{t:TA} (q:t σ H fun vs H1=>∀ x dx,H1 x=none→H1 dx=none→dx≠x →
 sp (.ref x :: (vs++dvs)) (upd (upd H1 dx (.own x)) x (.ins C dx [])) (fun v H2=>v=.non∧Q (.ref x) H2) E):tMake C sp dvs E t σ H Q:=q
def rFld (K:PySem.W.Frag) (f:Str):V→Hp→VK→Prop:=fun x H Q=>∃ a C dx fs v,x=.ref a∧H a=some (.ins C dx fs)∧Cls K C∧NoAttr K C f∧fs.lookup f=some v∧Q v H
theorem r_fldK {ta:TE}{f:Str} (q:ta σ H fun x H1=>rFld K f x H1 Q):tFld K ta f σ H Q:=q
theorem r_fat {f:Str}{a C dx:Addr}{fs:List (Str × V)}{v:V} (h:H a=some (.ins C dx fs)) (c:Cls K C) (n:NoAttr K C f) (l:fs.lookup f=some v) (q:Q v H):rFld K f (.ref a) H Q:=⟨a,C,dx,fs,v,rfl,h,c,n,l,q⟩
def rSat (K:PySem.W.Frag) (f:Str) (y:V):V→Hp→(Hp→Prop)→Prop:=fun x H Q=>∃ a C dx fs,x=.ref a∧H a=some (.ins C dx fs)∧Cls K C∧NoAttr K C f∧fs.length < 1000∧Q (upd H a (.ins C dx (putF f y fs)))
theorem r_sfld {ta tv:TE}{f:Str} (q:tv σ H fun y H1=>ta σ H1 fun x H2=>rSat K f y x H2 fun H3=>D.nx σ H3):sFld K ta tv f D σ H:=q
theorem je6 {f:Str}{y:V}{a C dx:Addr}{fs:List (Str × V)}{R:Hp→Prop} (h:H a=some (.ins C dx fs)) (c:Cls K C) (n:NoAttr K C f) (l:fs.length < 1000) (q:∀ H',H' a=some (.ins C dx (putF f y fs))→But a H H'→R H'):rSat K f y (.ref a) H R :=
 ⟨a,C,dx,fs,rfl,h,c,n,l,q _ j07 j44⟩
theorem j5n {n:Nat} (h:Nat.ble (n+1) 1000=true):n < 1000:=Nat.le_of_ble_eq_true h
def rNewT (xs:List V) (H:Hp) (Q:VK):Prop:=xs.length≤sizeLine∧∀ p,H p=none→Q (.ref p) (upd H p (.tup xs))
def rNewL (xs:List V) (H:Hp) (Q:VK):Prop:=xs.length≤sizeLine∧∀ p,H p=none→Q (.ref p) (upd H p (.lst xs))
theorem r_tup {t:TA} (q:t σ H fun xs H1=>rNewT xs H1 Q):tTup t σ H Q:=q
theorem r_lst {t:TA} (q:t σ H fun xs H1=>rNewL xs H1 Q):tLst t σ H Q:=q
theorem r_newT {xs:List V} (c:Nat.ble xs.length 1000=true) (q:∀ p H',H p=none→H' p=some (.tup xs)→Ext H H'→Q (.ref p) H'):rNewT xs H Q :=
 ⟨Nat.le_trans (Nat.le_of_ble_eq_true c) (by rw[sizeLine_eq];decide),fun p n=>q p _ n j07 (j0j n)⟩
theorem r_newL {xs:List V} (c:Nat.ble xs.length 1000=true) (q:∀ p H',H p=none→H' p=some (.lst xs)→Ext H H'→Q (.ref p) H'):rNewL xs H Q :=
 ⟨Nat.le_trans (Nat.le_of_ble_eq_true c) (by rw[sizeLine_eq];decide),fun p n=>q p _ n j07 (j0j n)⟩
theorem r_for {wi:TI}{g:TG}{tb:TS} (q:wi σ H fun J H1=>∃ W:Nat→Nat→St→Hp→Prop,(∃ m,W 0 m σ H1)∧∀ i m σ H,W i m σ H →
 (J.stop i H∧D.nx σ H)∨(J.go i H∧∃ N:St→Hp→Prop,(∀ σ' H',N σ' H'→∃ m',m' < m∧W (i+1) m' σ' H')∧∀ x H',J.yld i H x H'→g x σ H' fun σ2 H2=>tb { D with nx:=N,ct:=N,bk:=D.nx } σ2 H2)):tFor wi g tb D σ H:=q
theorem r_rng1 {ta:TA}{R:It→Hp→Prop} (q:ta σ H fun vs H1=>∃ j:Int,vs=[.int j]∧-(2 ^ 62)≤j∧j < 2 ^ 62∧R (Itr 0 j.toNat) H1):iRng1 ta σ H R:=q
theorem jio {tl:TE}{R:It→Hp→Prop} (q:tl σ H fun x H1=>∃ a,x=.ref a∧(∃ xs,SqL K H1 a xs)∧R (Itl K a) H1):iList K tl σ H R:=q
theorem r_itup {tl:TE}{R:It→Hp→Prop} (q:tl σ H fun x H1=>∃ a,x=.ref a∧(∃ xs,SqT K H1 a xs)∧R (Itt K a) H1):iTup K tl σ H R:=q
theorem r_bm {T:String}{r:V→List V→Hp→VK→Prop}{to:TE}{t:TA} (q:to σ H fun x H1=>tyV K T x H1∧t σ H1 fun vs H2=>r x vs H2 Q):tBM K T r to t σ H Q:=q
theorem r_bm0 {T:String}{r:V→List V→Hp→VK→Prop}{to:TE} (q:to σ H fun x H1=>tyV K T x H1∧r x [] H1 Q):tBM0 K T r to σ H Q:=q
theorem r_tyl {p:Addr}{xs:List V}{R:Prop} (h:H p=some (.lst xs)) (q:R):tyV K "list" (.ref p) H∧R:=⟨.inl ⟨rfl,xs,SqL.of h⟩,q⟩
theorem j4m {p:Addr}{xs:List V}{y:V} (h:H p=some (.lst xs)) (l:xs.length < 1000000) (q:∀ H',H' p=some (.lst (xs++[y]))→But p H H'→Q .non H'):je5 (.ref p) [y] H Q :=
 ⟨p,xs,y,rfl,rfl,h,Nat.lt_of_lt_of_le l (by rw[sizeLine_eq];decide),q _ j07 j44⟩
theorem jip {p:Addr}{xs:List V} (h:H p=some (.lst xs)) (q:∀ H',H' p=some (.lst [])→But p H H'→Q .non H'):ji5 (.ref p) [] H Q:=⟨p,xs,rfl,rfl,h,q _ j07 j44⟩
theorem r_gnil {R:St→Hp→Prop} (q:R σ H):gNil [] σ H R:=⟨rfl,q⟩
theorem jiq {t:TG}{u:TGs}{v:V}{r:List V}{R:St→Hp→Prop} (q:t v σ H fun σ' H'=>u r σ' H' R):gCons t u (v :: r) σ H R:=⟨v,r,rfl,q⟩
theorem jcu {n:Nat}{t:TGs}{a:Addr}{xs:List V}{R:St→Hp→Prop} (h:H a=some (.tup xs)) (l:xs.length=n) (q:t xs σ H R):gTup K n t (.ref a) σ H R:=⟨a,xs,rfl,SqT.of h,l,q⟩
theorem r_max {i j:Int} (q:Q (.int (max i j)) H):rMax2 [.int i,.int j] H Q:=⟨i,j,rfl,q⟩
theorem r_min {i j:Int} (q:Q (.int (min i j)) H):rMin2 [.int i,.int j] H Q:=⟨i,j,rfl,q⟩
theorem r_intB {i:Bool} (q:Q (.int (if i then 1 else 0)) H):rInt1 [.bl i] H Q:=.inr ⟨i,rfl,q⟩
theorem r_isN {x:V} (q:Q (.bl (decide (x=.non))) H):rIsNo x .non H Q:=⟨rfl,q⟩
theorem r_notN {x:V} (q:Q (.bl (!decide (x=.non))) H):jih x .non H Q:=⟨rfl,q⟩
theorem jir {x:V}{k:Kd} (h:HasK H x k) (q:Q (.bl (k == .int || k == .bl)) H):jhh K [x,.ty "int"] H Q:=⟨x,_,_,.inl ⟨_,rfl,jie k⟩,h.tyOf,q⟩
theorem jfo {x:V}{k:Kd} (h:HasK H x k) (q:Q (.bl (k == .bl)) H):jhh K [x,.ty "bool"] H Q:=⟨x,_,_,.inl ⟨_,rfl,jfl k⟩,h.tyOf,q⟩
theorem jhj {x:V}{k:Kd} (h:HasK H x k) (q:Q (.bl (k == .str)) H):jhh K [x,.ty "str"] H Q:=⟨x,_,_,.inl ⟨_,rfl,jif k⟩,h.tyOf,q⟩
theorem jhk {x:V}{k:Kd} (h:HasK H x k) (q:Q (.bl (k == .tup)) H):jhh K [x,.ty "tuple"] H Q:=⟨x,_,_,.inl ⟨_,rfl,jct k⟩,h.tyOf,q⟩
theorem jis {x:V}{k:Kd} (h:HasK H x k) (q:Q (.bl (k == .lst)) H):jhh K [x,.ty "list"] H Q:=⟨x,_,_,.inl ⟨_,rfl,jfm k⟩,h.tyOf,q⟩
theorem r_lenS {p:Addr}{xs:List V} (h:SqL K H p xs) (q:Q (.int xs.length) H):rLen K [.ref p] H Q:=⟨_,_,rfl,.inl ⟨xs,h,rfl⟩,q⟩
theorem r_lenL {p:Addr}{xs:List V} (h:H p=some (.lst xs)) (q:Q (.int xs.length) H):rLen K [.ref p] H Q:=⟨_,_,rfl,.inl ⟨xs,SqL.of h,rfl⟩,q⟩
theorem r_lenT {p:Addr}{xs:List V} (h:H p=some (.tup xs)) (q:Q (.int xs.length) H):rLen K [.ref p] H Q:=⟨_,_,rfl,.inr ⟨xs,SqT.of h,rfl⟩,q⟩
theorem r_ixS {p:Addr}{xs:List V}{i:Int}{v:V} (h:SqL K H p xs) (e:atI xs i=some v) (q:Q v H):rIx K (.ref p) (.int i) H Q:=.inl ⟨p,xs,i,v,rfl,rfl,h,e,q⟩
theorem jna {p:Addr}{xs:List V}{i:Int}{v:V} (h:H p=some (.lst xs)) (e:atI xs i=some v) (q:Q v H):rIx K (.ref p) (.int i) H Q:=.inl ⟨p,xs,i,v,rfl,rfl,SqL.of h,e,q⟩
theorem j6r {p:Addr}{xs:List V}{i:Int}{v:V} (h:H p=some (.tup xs)) (e:atI xs i=some v) (q:Q v H):rIx K (.ref p) (.int i) H Q:=.inr (.inl ⟨p,xs,i,v,rfl,rfl,SqT.of h,e,q⟩)
theorem jit {α:Type}{xs:List α}{i:Int}{v:α} (h0:0≤i) (h:xs[i.toNat]?=some v):atI xs i=some v:=by
 have:=je4 h
 rwa [Int.toNat_of_nonneg h0] at this
theorem j7u {p:Addr}{xs:List V} (h:H p=some (.tup xs)) (q:∀ l H',H l=none→H' l=some (.lst xs)→Ext H H'→Q (.ref l) H'):jmn K [.ref p] H Q:=⟨p,xs,rfl,.inr (SqT.of h),fun l n=>q l _ n j07 (j0j n)⟩
theorem je7 {p:Addr}{xs:List V} (h:H p=some (.lst xs)) (q:∀ l H',H l=none→H' l=some (.lst xs)→Ext H H'→Q (.ref l) H'):jmn K [.ref p] H Q:=⟨p,xs,rfl,.inl (SqL.of h),fun l n=>q l _ n j07 (j0j n)⟩
theorem j33 {p:Addr}{xs:List V} (h:H p=some (.lst xs)) (q:∀ l H',H l=none→H' l=some (.tup xs)→Ext H H'→Q (.ref l) H'):jig K [.ref p] H Q:=⟨p,xs,rfl,.inl ⟨SqL.of h,fun l n=>q l _ n j07 (j0j n)⟩⟩
theorem jfp {p:Addr}{x:V}{xs:List V} (h:H p=some (.lst xs)) (fx:j5k x=true) (fl:xs.all j5k=true) (q:Q (.bl (!inV x xs)) H):rInU K true x (.ref p) H Q:=⟨p,xs,rfl,.inl (SqL.of h),fx,fl,q⟩
theorem r_inL {p:Addr}{x:V}{xs:List V} (h:H p=some (.lst xs)) (fx:j5k x=true) (fl:xs.all j5k=true) (q:Q (.bl (inV x xs)) H):rInU K false x (.ref p) H Q:=⟨p,xs,rfl,.inl (SqL.of h),fx,fl,q⟩
end
theorem iteD {c A B:Prop} [Decidable c] (h1:c→A) (h2:¬ c→B):if decide c=true then A else B:=by
 by_cases h:c
 ·rw[decide_eq_true h];exact iteT (h1 h)
 ·rw[decide_eq_false h];exact iteF (h2 h)
theorem iteN {c A B:Prop} [Decidable c] (h1:¬ c→A) (h2:c→B):if (!decide c)=true then A else B:=by
 by_cases h:c
 ·rw[decide_eq_true h];exact iteF (h2 h)
 ·rw[decide_eq_false h];exact iteT (h1 h)
abbrev NoX:Value→Shared→Prop:=fun _ _=>False
def j8y:List TT→TT
 | []=>fun _ H Q=>Q true H
 | t :: r=>fun σ H Q=>t σ H fun b H1=>if b=true then j8y r σ H1 Q else Q false H1
def PTs (X:Cx):List Expr→List TT→Prop
 | [],[]=>True
 | e :: es,t :: ts=>PT X e t∧PTs X es ts
 | _,_=>False
def j2e (env:Env) (ifs:List Expr) (b:Bool):Sem Bool:=forIn ifs b fun c r=>if r=true then do let ok ← isTrue c env (eval c env);pure (ForInStep.yield ok) else pure (ForInStep.yield r)
theorem j7v {M:Model}{A:Around}{E:Value→Shared→Prop}{s:Shared}{env:Env}{Q:Bool→Shared→Prop} (h:Q false s):∀ ifs:List Expr,wpAny M A (j2e env ifs false) Q E s
 | []=>wpAny_pure h
 | c :: r=>by
  unfold j2e
  rw[List.forIn_cons]
  simp only[Bool.false_eq_true,if_false]
  exact wpAny_bind (wpAny_pure (j7v h r))
theorem ja5 {X:Cx}{pins:List (Addr × Obj)}{σ:St}{Q:Bool→Hp→Prop}:∀ (ifs:List Expr) (ts:List TT) (s:Shared) (H:Hp),PTs X ifs ts→Inv X pins σ H s→j8y ts σ H Q→wpAny (model X.prog X.w) X.A (j2e X.env ifs true) (TP X pins σ Q) X.xe s
 | [],[],s,H,_,I,h=>wpAny_pure ⟨H,I,h⟩
 | [],_ :: _,_,_,p,_,_=>p.elim
 | _ :: _,[],_,_,p,_,_=>p.elim
 | c :: r,t :: ts,s,H,p,I,h=>by
  unfold j2e
  rw[List.forIn_cons]
  simp only[if_true]
  refine wpAny_bind (wpAny_bind (thn (p.1 pins s σ H _ I h) fun b s1 ⟨H1,I1,q1⟩=>wpAny_pure ?_))
  cases b with
  | true=>exact ja5 r ts s1 H1 p.2 I1 (by simpa using q1)
  | false=>exact j7v ⟨H1,I1,by simpa using q1⟩ r
section
variable {prog:Program}{w:World}{A:Around}{R:Result→Shared→Prop}
theorem jcv {elt tg iter:Expr}{ifs:List Expr}{scope:Scope}{pos:Pos}{it acc:Value}{env:Env} (J:Nat→Shared→Prop)
  (turn:∀ n s,J n s→wpAny (model prog w) A (pyNext it) (fun r s1=>match r with
   | none=>R (.ok .next) s1
   | some v=>wpAny (model prog w) A (letOwnedTupleGo tg it v) (fun _ s2=>wpAny (model prog w) A (assign tg env v) (fun _ s3=>wpAny (model prog w) A (j2e env ifs true) (fun ok s4 =>
     if ok=true then wpAny (model prog w) A (eval elt env) (fun x s5=>wpAny (model prog w) A (call (.builtin "list.append") [acc,x]) (fun _ s6=>∃ m,m < n∧J m s6) NoX s5) NoX s4
     else ∃ m,m < n∧J m s4) NoX s3) NoX s2) NoX s1) NoX s) (n:Nat) {s:Shared} (h:J n s) :
  codeAny (model prog w) A (.compLoop (.ListComp elt [⟨tg,iter,ifs,0⟩] scope pos) 0 it acc env) R s:=by
 refine codeAny_loop rfl J (fun n s hJ=>?_) n h
 show wpAny _ A ((compTurn (.ListComp elt [⟨tg,iter,ifs,0⟩] scope pos) 0 it acc env).onRaise _) _ _ s
 refine wpAny_noted ?_
 have nx:∀ {E:Value→Shared→Prop} (e:Value) (s:Shared),NoX e s→E e s:=fun _ _ f=>f.elim
 rw[compTurn_list]
 refine wpAny_bind (wpAny_standAt (wpAny_bind (wpAny_mono (turn n s hJ) (fun r s1 q1=>?_) nx)))
 cases r with
 | none=>exact wpAny_pure q1
 | some v =>
  refine wpAny_bind (wpAny_mono q1 (fun _ s2 q2=>?_) nx)
  refine wpAny_bind (wpAny_mono q2 (fun _ s3 q3=>?_) nx)
  refine wpAny_bind (wpAny_mono (show wpAny _ _ (j2e env ifs true) _ _ _ from q3) (fun ok s4 q4=>?_) nx)
  cases ok with
  | false=>exact wpAny_pure ⟨rfl,q4⟩
  | true =>
   refine wpAny_bind (wpAny_bind (wpAny_mono q4 (fun x s5 q5=>?_) nx))
   exact wpAny_bind (wpAny_mono q5 (fun _ s6 q6=>wpAny_pure (wpAny_pure ⟨rfl,q6⟩)) nx)
end
def j2f (cells:List (Str × Addr)):List (Str × NameKind)→List (Str × Addr)→Option (List (Str × Addr))
 | [],cs=>some cs
 | (n,k) :: r,cs=>if (k == .free)=true then (match cells.lookup n with | some a=>j2f cells r ((n,a) :: cs) | none=>none) else j2f cells r cs
theorem j6s {env:Env}:∀ (names:List (Str × NameKind)) (cs cl:List (Str × Addr)),j2f env.cells names cs=some cl →
  (forIn names cs fun x r=>match x with | (name,kind)=>if (kind == .free)=true then do let a ← cellOf env name;pure (ForInStep.yield ((name,a) :: r)) else pure (ForInStep.yield r):Sem (List (Str × Addr)))=pure cl
 | [],cs,cl,h=>by
  cases h
  rfl
 | (n,k) :: r,cs,cl,h=>by
  rw[List.forIn_cons]
  unfold j2f at h
  by_cases hk:(k == NameKind.free)=true
  ·rw[if_pos hk] at h
   dsimp only
   rw[if_pos hk]
   unfold cellOf
   cases e:env.cells.lookup n with
   | none=>rw[e] at h;cases h
   | some a =>
    rw[e] at h
    exact j6s r _ cl h
  ·rw[if_neg hk] at h
   dsimp only
   rw[if_neg hk]
   exact j6s r cs cl h
theorem j19 {scope:Scope}{env:Env}{cl:List (Str × Addr)} (h:j2f env.cells scope.names []=some cl):closureFor scope env=pure cl:=by
 have e:closureFor scope env=((forIn scope.names ([]:List (Str × Addr)) fun x r=>match x with | (name,kind)=>if (kind == .free)=true then do let a ← cellOf env name;pure (ForInStep.yield ((name,a) :: r)) else pure (ForInStep.yield r):Sem (List (Str × Addr))) >>= fun cs=>pure cs):=by
  first | rfl | (unfold closureFor;rfl)
 rw[e,j6s _ _ _ h]
 rfl
theorem j34 {cells:List (Str × Addr)}:∀ (names:List (Str × NameKind)) (cs cl:List (Str × Addr)),j2f cells names cs=some cl→(∀ x c,cs.lookup x=some c→cells.lookup x=some c)→∀ x c,cl.lookup x=some c→cells.lookup x=some c
 | [],cs,cl,h,p=>by cases h;exact p
 | (n,k) :: r,cs,cl,h,p=>by
  unfold j2f at h
  split at h
  ·split at h
   ·rename_i a e
    refine j34 r _ cl h fun x c q=>?_
    rw[List.lookup_cons] at q
    by_cases hx:(x == n)=true
    ·rw[hx] at q
     have:x=n:=by simpa using hx
     subst this
     cases q
     exact e
    ·have hx':(x == n)=false:=by simpa using hx
     rw[hx'] at q
     exact p x c q
   ·cases h
  ·exact j34 r cs cl h p
theorem j2g {cells:List (Str × Addr)}:∀ (names:List (Str × NameKind)) (cs cl:List (Str × Addr)),j2f cells names cs=some cl→∀ x,((∃ c,cs.lookup x=some c)∨(x,NameKind.free)∈names)→∃ c,cl.lookup x=some c
 | [],cs,cl,h,x,p=>by
  cases h
  rcases p with p | p
  ·exact p
  ·simp at p
 | (n,k) :: r,cs,cl,h,x,p=>by
  unfold j2f at h
  split at h
  ·split at h
   ·rename_i a e
    refine j2g r _ cl h x ?_
    by_cases hx:x=n
    ·exact .inl ⟨a,by rw[List.lookup_cons,hx];simp⟩
    ·have hx':(x == n)=false:=by simpa using hx
     rcases p with⟨c,p⟩ | p
     ·exact .inl ⟨c,by rw[List.lookup_cons,hx'];exact p⟩
     ·rcases List.mem_cons.mp p with q | q
      ·cases q;exact absurd rfl hx
      ·exact .inr q
   ·cases h
  ·rename_i hk
   refine j2g r _ cl h x ?_
   rcases p with p | p
   ·exact .inl p
   ·rcases List.mem_cons.mp p with q | q
    ·cases q;exact absurd rfl hk
    ·exact .inr q
theorem j45 {scope:Scope}{env:Env} (hc:∀ y∈scope.names,y.2≠.cell) {x:Str} (h:(relabel scope env).names.lookup x=some .cell∨(relabel scope env).names.lookup x=some .free):(x,NameKind.free)∈scope.names:=by
 have key:∀ k,(k=.cell∨k=.free)→(relabel scope env).names.lookup x=some k→(x,NameKind.free)∈scope.names:=fun k hk e=>by
  have m:=PySem.mem_of_lookup e
  obtain⟨⟨n,k'⟩,hm,e2⟩:=List.mem_map.mp m
  dsimp only at e2
  split at e2
  ·rename_i q
   cases e2
   have:k'=.free:=by
    have:=(Bool.and_eq_true_iff.mp (Bool.and_eq_true_iff.mp q).1).1
    simpa using this
   subst this
   exact hm
  ·cases e2
   rcases hk with rfl | rfl
   ·exact absurd rfl (hc _ hm)
   ·exact hm
 exact h.elim (key _ (.inl rfl)) (key _ (.inr rfl))
def j1e (X:Cx) (pins:List (Addr × Obj)) (N:List Str) (scope:Scope) (cl:List (Str × Addr)) (fp:List Addr) (s:Shared) (H:Hp):Cx where
 prog:=X.prog
 w:=X.w
 K:=X.K
 mg:=X.mg
 base:=X.base
 A:=X.A
 N:=N
 s₀:=s
 H₀:=H
 env:=compEnvC scope cl s.heap.objs.size X.env
 outer:=X.stack
 stack:=X.stack
 ex:=fp
 fn:=fun _=>false
 calm:=X.calm
 pn:=X.pn++pins
 xe:=NoX
def Frees (X:Cx) (sc:Scope):List Str→List Nat→Prop
 | [],[]=>True
 | y :: ys,j :: js=>(X.N[j]?=some y∧(X.env.kindOf y=some .cell∨X.env.kindOf y=some .free)∧(sc.names.lookup y=some .cell∨sc.names.lookup y=some .free))∧Frees X sc ys js
 | _,_=>False
theorem Frees.get {X:Cx}{sc:Scope}:∀ {ys:List Str}{js:List Nat}{i:Nat}{y:Str},Frees X sc ys js→ys[i]?=some y→∃ j,js[i]?=some j∧X.N[j]?=some y∧(X.env.kindOf y=some .cell∨X.env.kindOf y=some .free)∧(sc.names.lookup y=some .cell∨sc.names.lookup y=some .free)
 | [],_,_,_,_,e=>by simp at e
 | _ :: _,[],_,_,h,_=>h.elim
 | y :: ys,j :: js,0,z,h,e=>by
  simp at e
  subst e
  exact⟨j,rfl,h.1⟩
 | y :: ys,j :: js,i+1,z,h,e=>Frees.get (ys:=ys) (js:=js) (i:=i) h.2 (by simpa using e)
theorem Frees.len {X:Cx}{sc:Scope}:∀ {ys:List Str}{js:List Nat},Frees X sc ys js→ys.length=js.length
 | [],[],_=>rfl
 | [],_ :: _,h=>h.elim
 | _ :: _,[],h=>h.elim
 | _ :: ys,_ :: js,h=>by rw[List.length_cons,List.length_cons,Frees.len h.2]
def j8z (σ:St) (j:Nat):Option V:=match σ[j]? with | some o=>o | none=>none
def cSt (own:List Str) (js:List Nat) (σ:St):St:=own.map (fun _=>none)++js.map (j8z σ)
section
variable {X:Cx}{pins:List (Addr × Obj)}{σ:St}{H:Hp}{s:Shared}
theorem ja6 {own fr:List Str}{js:List Nat}{scope:Scope}{cl:List (Str × Addr)}{fp:List Addr}{h':Heap}{tk:Nat} (I:Inv X pins σ H s) (hkind:scope.kind=.function) (hc:∀ y∈scope.names,y.2≠.cell)
  (hcl:j2f X.env.cells scope.names []=some cl) (hF:Frees X (relabel scope X.env) fr js) (hfp:∀ b∈fp,FpOk X pins H b) (hlt:∀ b∈fp,b < s.heap.objs.size)
  (hn:h'.Ns s.heap.objs.size (fun _=>none)) (hk:∀ b o,s.heap.get? b=some o→h'.get? b=some o) :
  Inv (j1e X pins (own++fr) scope cl fp s H) [] (cSt own js σ) H { s with heap:=h',toks:=tk }:=by
 have sub:=j34 _ _ _ hcl (fun _ _ q=>by simp at q)
 have clt:∀ x c,X.env.cells.lookup x=some c→c < s.heap.objs.size:=fun x c e=>by obtain⟨v,q⟩:=I.cell x c e;exact q.lt
 refine⟨⟨I.ok.mod,hkind,I.ok.glob,I.ok.blt,Nat.le_refl _,fun x y c e1 e2=>I.ok.inj x y c (sub _ _ e1) (sub _ _ e2),fun x hx=>?_,(fun x c q=>Bool.noConfusion (show false=true from q)),I.ok.hd,I.ok.frames,.inl rfl,fun b hb=>⟨Nat.ne_of_lt (hlt b hb),fun x c e=>(hfp b hb).2.2.2.2.1 x c (sub x c e)⟩,
  I.bs,Nat.le_trans I.ok.bsz I.sz,fun b o e hb=>?_,fun b hb hq=>?_,I.stack,I.stkFree⟩,rfl,I.bare,Un.kept hk,⟨_,hn,fun i x v e1 e2 e3=>?_⟩,fun x c e=>?_,I.hok.fresh (Nat.le_refl _),fun x c e=>I.freeC x c (sub x c e),fun p hp=>?_,I.hok.kept hk,?_⟩
 ·exact j2g _ _ _ hcl x (.inr (j45 hc hx))
 ·rcases (hfp b hb).2.2.2.1 with q | q
  ·exact I.ok.noex b o e q
  ·exact absurd (Heap.lt_size (I.ok.bs b o e).1) (Nat.not_lt.mpr q)
 ·have:=I.stkSub b hq
  rcases List.mem_cons.mp this with z | z
  ·exact (hfp b hb).2.1 z
  ·exact (hfp b hb).2.2.1 z
 ·have hi:own.length≤i:=by
   refine Nat.le_of_not_lt fun q=>?_
   unfold cSt at e2
   rw[List.getElem?_append_left (by simpa using q),List.getElem?_map] at e2
   cases z:own[i]? with
   | none=>rw[z] at e2;cases e2
   | some y=>rw[z] at e2;cases e2
  have e1':fr[i-own.length]?=some x:=by
   have:(own++fr)[i]?=some x:=e1
   rwa [List.getElem?_append_right hi] at this
  obtain⟨j,hj,nj,kj,lj⟩:=hF.get e1'
  have e2':j8z σ j=some v:=by
   unfold cSt at e2
   rw[List.getElem?_append_right (by simpa using hi),List.length_map,List.getElem?_map,hj] at e2
   exact Option.some.inj e2
  have e4:σ[j]?=some (some v):=by
   unfold j8z at e2'
   split at e2'
   ·rename_i o q;rw[q,e2']
   ·cases e2'
  obtain⟨m,hm,hl⟩:=I.loc
  obtain⟨u,ru,lk⟩:=hl j x v nj e4 (kj.elim (fun q=>.inr (.inl q)) fun q=>.inr (.inr q))
  refine⟨u,ru,.inr ⟨lj,?_⟩⟩
  rcases lk with⟨q,_⟩ | ⟨_,c,ec,ic⟩
  ·rcases kj with k | k <;> (rw[q] at k;cases k)
  ·obtain⟨c',ec'⟩:=j2g _ _ _ hcl x (.inr (j45 hc lj))
   have:=sub _ _ ec'
   rw[ec] at this
   cases this
   exact⟨c,ec',ic.keeps hk⟩
 ·obtain⟨v,q⟩:=I.cell x c (sub x c e)
  exact⟨v,q.keeps hk⟩
 ·have hp':p∈X.pn++pins:=by
   rcases List.mem_append.mp hp with q | q
   ·exact q
   ·simp at q
  obtain⟨q1,q2,q3,q4,q5⟩:=I.pin p hp'
  refine⟨hk _ _ q1,q2,Nat.ne_of_lt (Heap.lt_size q1),fun z=>?_,q5⟩
  rcases List.mem_cons.mp (I.stkSub _ z) with y | y
  ·exact q3 y
  ·exact q4 y
 ·show (cSt own js σ).length=(own++fr).length
  unfold cSt
  rw[List.length_append,List.length_append,List.length_map,List.length_map,hF.len]
theorem jcw {N:List Str}{scope:Scope}{cl:List (Str × Addr)}{fp:List Addr}{σ':St}{H':Hp}{s':Shared}{ps:List (Addr × Obj)} (I:Inv X pins σ H s) (hfp:∀ b∈fp,FpOk X pins H b)
  (J:Inv (j1e X pins N scope cl fp s H) ps σ' H' s'):Inv X pins σ H' s':=by
 refine I.call' (ch:=fp) J.os J.base J.hok J.bare fun b hb=>?_
 obtain⟨_,f1,_,f3,f4,f5⟩:=hfp b hb
 exact⟨f3,f1,f4,f5⟩
end
def accO (a:Addr) (ys:List V):HO:=.ext fun h=>ys.length≤sizeLine∧∃ (its:List Value) (n:Nat),Vals ys its∧h.get? a=some { cls:=.type "list",data:=.seq its.toArray n }
theorem jiu {P:Program}{w:World}{H:Hp}{h:Heap}{a:Addr}{ys:List V} (o:ObjOk P w H h a (.lst ys)):ObjOk P w H h a (accO a ys):=by
 obtain⟨z,its,n,r,e⟩:=o
 exact⟨⟨z,its,n,r,e⟩,⟨_,e⟩,fun h1 h2 ⟨z,its,n,r,e⟩ k=>⟨z,its,n,r,k _ e⟩⟩
theorem jiv {P:Program}{w:World}{H:Hp}{h:Heap}{a:Addr}{ys:List V} (o:ObjOk P w H h a (accO a ys)):ObjOk P w H h a (.lst ys):=by
 obtain⟨⟨z,its,n,r,e⟩,_⟩:=o
 exact⟨z,its,n,r,e⟩
def jiw:HO→Bool
 | .lst _=>true | .ext _=>true | _=>false
theorem Inv.retrack {X:Cx}{pins:List (Addr × Obj)}{σ:St}{H:Hp}{s:Shared}{a:Addr}{o o':HO} (I:Inv X pins σ H s) (h:H a=some o) (hp:jiw o=true) (new:∀ H',ObjOk X.prog X.w H' s.heap a o'):Inv X pins σ (upd H a o') s:=by
 have ne:∀ {b:Addr}{u:HO},H b=some u→jiw u=false→b≠a:=fun hb hu z=>by subst z;rw[h] at hb;cases hb;rw[hp] at hu;cases hu
 have I':=I.un (h':=s.heap) (t':=s.toks) (H':=upd H a o') ⟨fun _ _ e _ _ _=>e,fun b u e _ _ _=>⟨u.slots,e⟩,fun b u _ n _=>by rw[j08 (fun z=>by subst z;rw[h] at n;cases n)];exact n,fun b u e _=>⟨u,e⟩,
  fun b xs e=>by rw[j08 (ne e rfl)];exact e,fun b ob u e=>by rw[j08 (ne e rfl)];exact e,fun b ps e=>⟨#[],by rw[j08 (ne e rfl),e];simp⟩⟩ (fun b u e=>by
   by_cases hb:b=a
   ·subst hb;rw[j07] at e;cases e;exact new _
   ·rw[j08 hb] at e
    exact (I.hok b u e).stay (fun _ _ _ q=>q) (fun c q=>by rw[j08 (ne q rfl)];exact q) fun c xs q=>by rw[j08 (ne q rfl)];exact q)
 exact I'
theorem jix {H:Hp}{a:Addr}{o o':HO} (h:H a=some o) (hd:jic o=false):Kp H (upd H a o'):=fun b u e d=>by
 rw[j08 (fun z=>by subst z;rw[h] at e;cases e;rw[hd] at d;cases d)];exact e
def jca (J:It) (g:TG) (ts:List TT) (te:TE) (acc:Addr) (σ0:St) (H0:Hp) (Q:Hp→Prop):Prop :=
 ∃ W:Nat→Nat→St→List V→Hp→Prop,(∃ m,W 0 m σ0 [] (upd H0 acc (accO acc [])))∧∀ i m σ ys H,W i m σ ys H→H acc=some (accO acc ys) →
  (J.stop i H∧Q (upd H acc (.lst ys)))∨(J.go i H∧∀ x H',J.yld i H x H'→g x σ H' fun σ2 H2=>j8y ts σ2 H2 fun b H3 =>
   if b=true then te σ2 H3 fun y H4=>H4 acc=some (accO acc ys)∧ys.length < sizeLine∧∃ m',m' < m∧W (i+1) m' σ2 (ys++[y]) (upd H4 acc (accO acc (ys++[y])))
   else H3 acc=some (accO acc ys)∧∃ m',m' < m∧W (i+1) m' σ2 ys H3)
abbrev CA (α:Type):=List (Addr × Obj)→List Addr→Shared→Hp→α
def jnb (wi:TI) (own:List Str) (js:List Nat) (g:CA TG) (ts:CA (List TT)) (te:CA TE):TE:=fun σ H Q=>wi σ H fun J H1=>∀ acc,H1 acc=none→∀ pins fp s Hc,jca J (g pins fp s Hc) (ts pins fp s Hc) (te pins fp s Hc) acc (cSt own js σ) H1 fun H'=>Q (.ref acc) H'
structure CompOk (X:Cx) (scope:Scope) (cl:List (Str × Addr)) (own fr:List Str) (js:List Nat):Prop where
 kind:scope.kind=.function
 nc:∀ y∈scope.names,y.2≠.cell
 nl:∀ y∈scope.names,y.2=.local→scope.names.lookup y.1=some .local
 clos:j2f X.env.cells scope.names []=some cl
 frees:Frees X (relabel scope X.env) fr js
section
variable {X:Cx}{pins:List (Addr × Obj)}{σ:St}{H:Hp}{s:Shared}
theorem j7w {elt tg iter:Expr}{ifs:List Expr}{scope:Scope}{pos:Pos}{cl:List (Str × Addr)}{own fr:List Str}{js:List Nat}{g:CA TG}{ts:CA (List TT)}{te:CA TE}{R:Hp→Addr→Prop}{RR:Value→Addr→Result→Shared→Prop}{it:Addr}{fp:List Addr}{tn:Nat→Heap→Prop}{J:It}{E:Value→Shared→Prop}
  (O:CompOk X scope cl own fr js) (hcalm:X.calm=true)
  (hb:∀ pins fp s Hc,PG (j1e X pins (own++fr) scope cl fp s Hc) tg (g pins fp s Hc)∧PTs (j1e X pins (own++fr) scope cl fp s Hc) ifs (ts pins fp s Hc)∧PE (j1e X pins (own++fr) scope cl fp s Hc) elt (te pins fp s Hc))
  (I:Inv X pins σ H s) (T:Turn X.prog X.w X.K tg J fp it tn) (t0:tn 0 s.heap) (hf:∀ b∈fp,FpOk X pins H b)
  (h:∀ acc,H acc=none→∀ pins fp s Hc,jca J (g pins fp s Hc) (ts pins fp s Hc) (te pins fp s Hc) acc (cSt own js σ) H fun H'=>R H' acc)
  (fin:∀ acc C H' s' m,Inv X pins σ H' s'→R H' acc→s'.heap.Ns C m→FpOk X pins H' C→RR (.ref acc) C (.ok .next) s') :
  wpAny (model X.prog X.w) X.A (newList []) (fun acc s3=>wpAny (model X.prog X.w) X.A (newFunctionEnv scope X.env.globals cl [] X.env.qual none .none (some X.env)) (fun cenv s4 =>
   codeAny (model X.prog X.w) X.A (.compStart (.ListComp elt [⟨tg,iter,ifs,0⟩] scope pos) 0 (.ref it) acc { cenv with scope:=relabel scope X.env }) (RR acc cenv.locals) s4) E s3) E s:=by
 have n0:H s.heap.objs.size=none:=I.hok.fresh (Nat.le_refl _)
 have flt:∀ b∈fp,b < s.heap.objs.size:=fun b hb=>by obtain⟨o,e,_⟩:=T.obj 0 _ t0 b hb;exact Heap.lt_size e
 refine wpAny_newList ?_
 have I3:Inv X pins σ (upd H s.heap.objs.size (accO s.heap.objs.size [])) { s with heap:=s.heap.push { cls:=.type "list",data:=.seq ([]:List Value).toArray } } :=
  I.laid (t':=s.toks) (fun b o e=>Heap.get?_push_of_some _ e) (Nat.le_refl _) (jiu (show ObjOk X.prog X.w _ _ _ (.lst []) from⟨Nat.zero_le _,[],0,.nil,Heap.get?_push_size _ rfl⟩))
 have hf3:∀ b∈fp,FpOk X pins (upd H s.heap.objs.size (accO s.heap.objs.size [])) b:=fun b hb=>⟨by rw[j08 (Nat.ne_of_lt (flt b hb))];exact (hf b hb).1,(hf b hb).2⟩
 have t3:tn 0 (s.heap.push { cls:=.type "list",data:=.seq ([]:List Value).toArray }):=T.keep _ _ _ t0 fun b _ o e=>Heap.get?_push_of_some _ e
 specialize h s.heap.objs.size n0
 generalize hs3:({ s with heap:=s.heap.push { cls:=.type "list",data:=.seq ([]:List Value).toArray } }:Shared)=s3 at I3 ⊢
 have t3':tn 0 s3.heap:=by rw[← hs3];exact t3
 have lt3:∀ b∈fp,b < s3.heap.objs.size:=fun b hb=>by rw[← hs3];exact Nat.lt_of_lt_of_le (flt b hb) (by rw[Heap.size_push];exact Nat.le_succ _)
 generalize hH3:upd H s.heap.objs.size (accO s.heap.objs.size [])=H3 at I3 hf3
 generalize hacc:s.heap.objs.size=acc at *
 refine wpAny_newFunctionEnv O.nc (by intro x hx;simp at hx) (fun h1 hns hsb=>?_) O.kind
 have hk:∀ b o,s3.heap.get? b=some o→h1.get? b=some o:=fun b o e=>(hsb.2 b (Nat.ne_of_lt (Heap.lt_size e))).trans (Heap.get?_push_of_some _ e)
 have Ic:Inv (j1e X pins (own++fr) scope cl fp s3 H3) [] (cSt own js σ) H3 { s3 with heap:=h1,toks:=s3.toks+0 }:=ja6 I3 O.kind O.nc O.clos O.frees hf3 lt3 hns hk
 obtain⟨W,⟨m0,w0⟩,turn⟩:=h pins fp s3 H3
 obtain⟨hg,ht,he⟩:=hb pins fp s3 H3
 have stat:∀ {H':Hp}{ps:List (Addr × Obj)},ps=[]→(∀ b∈fp,H' b=none)→∀ b∈fp,FpOk (j1e X pins (own++fr) scope cl fp s3 H3) ps H' b:=fun {H' ps} hps hn b hb=>by
  obtain⟨f0,f1,f2,f3,f4,f5⟩:=hf3 b hb
  refine⟨hn b hb,Nat.ne_of_lt (lt3 b hb),fun z=>?_,.inl hb,fun x c e=>f4 x c (j34 _ _ _ O.clos (fun _ _ q=>by simp at q) x c e),fun p hp=>?_⟩
  ·rcases List.mem_cons.mp (I3.stkSub b z) with q | q
   ·exact f1 q
   ·exact f2 q
  ·subst hps
   rcases List.mem_append.mp hp with q | q
   ·exact f5 p q
   ·simp at q
 have loop:∀ {sx:Shared},Inv (j1e X pins (own++fr) scope cl fp s3 H3) [] (cSt own js σ) H3 sx→tn 0 sx.heap →
   codeAny (model X.prog X.w) X.A (.compLoop (.ListComp elt [⟨tg,iter,ifs,0⟩] scope pos) 0 (.ref it) (.ref acc) (compEnvC scope cl s3.heap.objs.size X.env)) (RR (.ref acc) s3.heap.objs.size) sx:=fun {sx} Jx tx=>by
  refine jcv (fun n s'=>∃ i σc ys H',Inv (j1e X pins (own++fr) scope cl fp s3 H3) [] σc H' s'∧tn i s'.heap∧(∀ b∈fp,H' b=none)∧H' acc=some (accO acc ys)∧W i n σc ys H') ?_ m0 ⟨0,_,[],H3,Jx,tx,fun b hb=>(hf3 b hb).1,by rw[← hH3];exact j07,by rw[← hH3];exact w0⟩
  rintro n s4 ⟨i,σ4,ys,H4,I4,t4,fr4,a4,w4⟩
  rcases turn i n σ4 ys H4 w4 a4 with⟨stop,qn⟩ | ⟨go,step⟩
  ·refine thn (T.done (j1e X pins (own++fr) scope cl fp s3 H3) rfl rfl rfl hcalm i [] s4 σ4 H4 NoX I4 (stat rfl fr4) t4 stop) fun r s5 ⟨hr,I5⟩=>?_
   subst hr
   obtain⟨m,hm,_⟩:=id I5.loc
   have IX:=jcw I3 hf3 I5
   have IL:=IX.retrack (o':=.lst ys) a4 rfl fun H'=>jiv (H:=H') (by obtain⟨p1,p2,p3⟩:=IX.hok acc _ a4;exact⟨p1,p2,p3⟩)
   refine fin acc s3.heap.objs.size _ s5 m IL qn hm (I3.fpOk (Nat.le_refl _) ?_)
   have c4:H4 s3.heap.objs.size=none:=I5.free
   rw[j08 (fun z=>by rw[z,a4] at c4;cases c4)];exact c4
  ·refine thn (T.item (j1e X pins (own++fr) scope cl fp s3 H3) rfl rfl rfl hcalm i [] s4 σ4 H4 NoX I4 (stat rfl fr4) t4 go) fun r s5 ⟨u,hr,q5⟩=>?_
   subst hr
   refine thn q5 fun _ s6 ⟨x,H6,I6,r6,y6,t6,fr6⟩=>?_
   have I6':=I6.pinned (stat rfl fr6) (T.obj _ _ t6)
   refine thn (hg _ s6 σ4 H6 x u _ I6' r6 (step x H6 y6)) fun _ s7 ⟨σ7,H7,I7,q7⟩=>?_
   refine thn (ja5 ifs _ s7 H7 ht I7 q7) fun ok s8 ⟨H8,I8,q8⟩=>?_
   have again:∀ {σ9:St}{H9:Hp}{s9:Shared}{zs:List V}{m:Nat},Inv (j1e X pins (own++fr) scope cl fp s3 H3) ([]++j9m fp s6.heap) σ9 H9 s9→H9 acc=some (accO acc zs)→m < n→W (i+1) m σ9 zs H9 →
     ∃ m,m < n∧∃ i σc ys H',Inv (j1e X pins (own++fr) scope cl fp s3 H3) [] σc H' s9∧tn i s9.heap∧(∀ b∈fp,H' b=none)∧H' acc=some (accO acc ys)∧W i m σc ys H':=fun {σ9 H9 s9 zs m} I9 a9 hm w9=>by
    refine⟨m,hm,i+1,σ9,zs,H9,I9.unpinned,T.keep _ _ _ t6 fun b hb o e=>(I9.pin (b,o) (List.mem_append_right _ (List.mem_append_right _ (j20 hb e)))).1,fun b hb=>?_,a9,w9⟩
    obtain⟨o,e,d⟩:=T.obj _ _ t6 b hb
    exact (I9.pin (b,o) (List.mem_append_right _ (List.mem_append_right _ (j20 hb e)))).2.1
   cases ok with
   | false =>
    obtain⟨a8,m',hm,w8⟩:=(show H8 acc=some (accO acc ys)∧∃ m',m' < n∧W (i+1) m' σ7 ys H8 by simpa using q8)
    exact again I8 a8 hm w8
   | true =>
    have q8':te pins fp s3 H3 σ7 H8 fun y H4=>H4 acc=some (accO acc ys)∧ys.length < sizeLine∧∃ m',m' < n∧W (i+1) m' σ7 (ys++[y]) (upd H4 acc (accO acc (ys++[y]))):=by simpa using q8
    refine thn (he _ s8 σ7 H8 _ I8 q8') fun v s9 ⟨y,H9,I9,r9,a9,hl,m',hm,w9⟩=>?_
    have IL:=I9.retrack (o':=.lst ys) a9 rfl fun H'=>jiv (H:=H') (by obtain⟨p1,p2,p3⟩:=I9.hok acc _ a9;exact⟨p1,p2,p3⟩)
    refine thn (j21 _ s9 σ7 _ (.ref acc) [y] (.ref acc) [v] (fun _ H'=>H'=upd H9 acc (.lst (ys++[y]))) IL rfl (.cons r9 .nil) ⟨acc,ys,y,rfl,rfl,j07,hl,by rw[jdw]⟩) fun _ s10 ⟨_,H10,I10,_,e10⟩=>?_
    subst e10
    have I11:=I10.retrack (o':=accO acc (ys++[y])) j07 rfl fun H'=>jiu (H:=H') (by obtain⟨p1,p2,p3⟩:=I10.hok acc _ j07;exact⟨p1,p2,p3⟩)
    rw[jdw] at I11
    exact again I11 j07 hm w9
 exact codeAny_compStart_list (loop Ic (T.keep _ _ _ t3' fun b _ o e=>hk b o e)) (T.self _ 0 _ _ _ (T.keep _ _ _ t3' fun b _ o e=>hk b o e) (loop Ic (T.keep _ _ _ t3' fun b _ o e=>hk b o e)))
theorem j1c {elt tg iter:Expr}{ifs:List Expr}{scope:Scope}{pos:Pos}{cl:List (Str × Addr)} (own fr:List Str) (js:List Nat) {wi:TI}{g:CA TG}{ts:CA (List TT)}{te:CA TE}
  (hcalm:X.calm=true) (O:CompOk X scope cl own fr js) (hi:PI X tg iter wi)
  (hb:∀ pins fp s Hc,PG (j1e X pins (own++fr) scope cl fp s Hc) tg (g pins fp s Hc)∧PTs (j1e X pins (own++fr) scope cl fp s Hc) ifs (ts pins fp s Hc)∧PE (j1e X pins (own++fr) scope cl fp s Hc) elt (te pins fp s Hc))
  (hs:∀ x,foldedSetIterable iter X.env x=pure x:=by intro _;rfl) :
  PE X (.ListComp elt [⟨tg,iter,ifs,0⟩] scope pos) (jnb wi own js g ts te):=by
 intro pins s σ H Q I h
 rw[eval_ListComp]
 refine wpAny_comprehension_free (use:=none) rfl hs (j19 O.clos) O.kind O.nl (thn (hi pins s σ H _ I h) fun xv s1 q1=>thn q1 fun itv s2 q2=>?_)
 obtain⟨it,fp,tn,J,H2,rfl,I2,T,t2,f2,q⟩:=q2
 refine j7w (RR:=fun acc C=>compPost (model X.prog X.w) X.A X.xe none (EP X pins σ Q) acc C) O hcalm hb I2 T t2 f2 q fun acc C H' s' m I' r' hm hC=>⟨m,hm,fun h' sb=>?_⟩
 obtain⟨f0,f1,f2,f3,f4,f5⟩:=hC
 exact⟨.ref acc,H',I'.turned (t':=s'.toks) (fun b o hb e=>(sb.2 b hb).trans e) f0 f1 f3 f4 f5,rfl,r'⟩
theorem ja7 {i:Nat}{x:Str}{elt tg iter:Expr}{ifs:List Expr}{scope:Scope}{pos pos' spos:Pos}{cl:List (Str × Addr)} (own fr:List Str) (js:List Nat) {wi:TI}{g:CA TG}{ts:CA (List TT)}{te:CA TE}
  (hN:X.N.Nodup) (hix:X.N[i]?=some x) (hx:Loc X.env.scope x) (hcalm:X.calm=true) (O:CompOk X scope cl own fr js) (hi:PI X tg iter wi)
  (hb:∀ pins fp s Hc,PG (j1e X pins (own++fr) scope cl fp s Hc) tg (g pins fp s Hc)∧PTs (j1e X pins (own++fr) scope cl fp s Hc) ifs (ts pins fp s Hc)∧PE (j1e X pins (own++fr) scope cl fp s Hc) elt (te pins fp s Hc))
  (hsw:swapsWith (.ListComp elt [⟨tg,iter,ifs,0⟩] scope pos) (some (.Name x pos')) spos.line X.env=pure true:=by rfl)
  (hs:∀ x,foldedSetIterable iter X.env x=pure x:=by intro _;rfl) (hf:X.fn x=true∨X.env.scope.names.lookup x=some .local:=by first | exact .inl rfl | exact .inr rfl | assumption) :
  PS X (.Assign [.Name x pos'] (.ListComp elt [⟨tg,iter,ifs,0⟩] scope pos) spos) (tAsg (jnb wi own js g ts te) (jcf i)):=by
 intro pins s σ H D I h
 rw[exec_Assign_Name_used _ _ _ _ hsw]
 refine wpAny_bind (wpAny_standAt (wpAny_bind ?_))
 show wpAny _ _ (comprehension (.ListComp elt [⟨tg,iter,ifs,0⟩] scope pos) scope X.env (firstIterPos [⟨tg,iter,ifs,0⟩] pos) (newList []) false (eval iter X.env) (some (assign (.Name x pos') X.env)) >>= _) _ _ _
 refine wpAny_bind ?_
 have h':wi σ H fun J H1=>∀ acc,H1 acc=none→∀ pins fp s Hc,jca J (g pins fp s Hc) (ts pins fp s Hc) (te pins fp s Hc) acc (cSt own js σ) H1 fun H'=>D.nx (σ.set i (some (.ref acc))) H':=h
 refine wpAny_comprehension_free (use:=some (assign (.Name x pos') X.env)) rfl hs (j19 O.clos) O.kind O.nl (thn (hi pins s σ H _ I h') fun xv s1 q1=>thn q1 fun itv s2 q2=>?_)
 obtain⟨it,fp,tn,J,H2,rfl,I2,T,t2,f2,q⟩:=q2
 refine j7w (RR:=fun acc C=>compPost (model X.prog X.w) X.A X.xe (some (assign (.Name x pos') X.env)) _ acc C) O hcalm hb I2 T t2 f2 q fun acc C H' s' m I' r' hm hC=>?_
 obtain⟨f0,f1,f2,f3,f4,f5⟩:=hC
 obtain⟨oc,es,ep,ho,hd,hr⟩:=id hm
 have IP:Inv X (pins++[(C,oc)]) σ H' s':=I'.pins_of fun p hp=>by
  rcases List.mem_append.mp hp with q | q
  ·exact I'.pin p (List.mem_append_right _ q)
  ·obtain rfl:p=(C,oc):=by simpa using q
   exact⟨ho,f0,f1,f2,fun v z=>by rw[hd] at z;cases z⟩
 refine wpAny_assign_Name (j6e IP hN hix hx (v:=.ref acc) (u:=.ref acc) rfl (fun s'' I''=>?_) hf)
 have hC'':=(I''.pin (C,oc) (List.mem_append_right _ (List.mem_append_right _ (by simp)))).1
 refine⟨m,⟨oc,es,ep,hC'',hd,hr⟩,fun h' sb=>?_⟩
 exact wpAny_pure (wpAny_pure ⟨_,H',(I''.unpinned).turned (t':=s''.toks) (fun b o hb e=>(sb.2 b hb).trans e) f0 f1 f3 f4 f5,r'⟩)
end
section
variable {K:PySem.W.Frag}{ts:List TT}{te:TE}{acc:Addr}{fr:St}{H1:Hp}{R:Hp→Prop}{xs ys:List V}
theorem r_comp {wi:TI}{own:List Str}{js:List Nat}{g:CA TG}{ts:CA (List TT)}{te:CA TE}{σ:St}{H:Hp}{Q:VK} (q:wi σ H fun J H1=>∀ acc,H1 acc=none→∀ pins fp s Hc,jca J (g pins fp s Hc) (ts pins fp s Hc) (te pins fp s Hc) acc (cSt own js σ) H1 fun H'=>Q (.ref acc) H'):jnb wi own js g ts te σ H Q:=q
def jcx (ts:List TT) (te:TE) (Pv:List V→Hp→Prop) (ys:List V) (H:Hp) (σ2:St) (H2:Hp):Prop :=
 ∀ (Y:V→Hp→Prop) (N:Hp→Prop),(∀ y H',Ext H H'→Pv (ys++[y]) H'→Y y H')→(∀ H',Ext H H'→Pv ys H'→N H')→j8y ts σ2 H2 fun b H3=>if b=true then te σ2 H3 Y else N H3
theorem j4n {J:It}{g:TG}{σ0:St} (n:Nat) (hz:n≤1000000) (hn:H1 acc=none) (Sv:St→Prop) (Pv:Nat→List V→Hp→Prop) (s0:Sv σ0) (h0:Pv 0 [] H1) (kp:∀ i ys H H',Kp H H'→Pv i ys H→Pv i ys H')
  (hgo:∀ i H,i < n→Ext H1 H→J.go i H) (hst:∀ H,Ext H1 H→J.stop n H) (len:∀ i ys H,i≤n→Pv i ys H→ys.length≤i)
  (turn:∀ i σ ys H x H' (G:St→Hp→Prop),i < n→Ext H1 H→Sv σ→Pv i ys H→J.yld i H x H'→(∀ σ2 H2,Sv σ2→jcx ts te (Pv (i+1)) ys H σ2 H2→G σ2 H2)→g x σ H' G)
  (fin:∀ ys H,Ext H1 H→H acc=some (.lst ys)→Pv n ys H→R H):jca J g ts te acc σ0 H1 R:=by
 have e0:Ext H1 (upd H1 acc (accO acc [])):=j0j hn
 refine⟨fun i m σ ys H=>m=n-i∧i≤n∧Ext H1 H∧Sv σ∧Pv i ys H,⟨n,by omega,Nat.zero_le _,e0,s0,kp _ _ _ _ e0.kp h0⟩,?_⟩
 rintro i m σ ys H ⟨rfl,hi,e,sv,pv⟩ ha
 by_cases hlt:i < n
 ·refine .inr ⟨hgo i H hlt e,fun x H' y=>turn i σ ys H x H' _ hlt e sv pv y fun σ2 H2 s2 q2=>?_⟩
  refine q2 _ _ (fun y H4 e4 p4=>?_) fun H3 e3 p3=>?_
  ·have a4:H4 acc=some (accO acc ys):=e4 _ _ ha
   have z:ys.length < sizeLine:=by have:=len _ _ _ hi pv;rw[sizeLine_eq];omega
   refine⟨a4,z,n-(i+1),by omega,rfl,hlt,fun b o hb=>?_,s2,kp _ _ _ _ (jix a4 rfl) p4⟩
   rw[j08 (j05 hb hn)]
   exact e4 _ _ (e _ _ hb)
  ·exact⟨e3 _ _ ha,n-(i+1),by omega,rfl,hlt,e.tr e3,s2,p3⟩
 ·have hn':i=n:=by omega
  subst hn'
  refine .inl ⟨hst H e,fin ys _ (fun b o hb=>?_) j07 (kp _ _ _ _ (jix ha rfl) pv)⟩
  rw[j08 (j05 hb hn)]
  exact e _ _ hb
theorem j22 {a:Addr}{u:Option V} (hx:SqL K H1 a xs) (hz:xs.length≤1000000) (hn:H1 acc=none) (Pv:Nat→List V→Hp→Prop) (h0:Pv 0 [] H1) (kp:∀ i ys H H',Kp H H'→Pv i ys H→Pv i ys H') (len:∀ i ys H,i≤xs.length→Pv i ys H→ys.length≤i)
  (turn:∀ i x ys H,xs[i]?=some x→Ext H1 H→Pv i ys H→jcx ts te (Pv (i+1)) ys H (some x :: fr) H)
  (fin:∀ ys H,Ext H1 H→H acc=some (.lst ys)→Pv xs.length ys H→R H):jca (Itl K a) (jcf 0) ts te acc (u :: fr) H1 R:=by
 refine j4n xs.length hz hn (fun σ=>∃ u,σ=u :: fr) Pv ⟨u,rfl⟩ h0 kp (fun i H hi e=>⟨xs,xs[i],e.seqL hx,List.getElem?_eq_getElem hi⟩) (fun H e=>⟨xs,e.seqL hx,Nat.le_refl _⟩) len ?_ fin
 rintro i σ ys H x H' G hi e ⟨u,rfl⟩ pv ⟨rfl,y⟩ hG
 have:=y xs (e.seqL hx)
 exact hG _ _ ⟨some x,rfl⟩ (turn i x ys _ this e pv)
theorem j1v {a:Addr}{u:Option V} (hx:SqT K H1 a xs) (hz:xs.length≤1000000) (hn:H1 acc=none) (Pv:Nat→List V→Hp→Prop) (h0:Pv 0 [] H1) (kp:∀ i ys H H',Kp H H'→Pv i ys H→Pv i ys H') (len:∀ i ys H,i≤xs.length→Pv i ys H→ys.length≤i)
  (turn:∀ i x ys H,xs[i]?=some x→Ext H1 H→Pv i ys H→jcx ts te (Pv (i+1)) ys H (some x :: fr) H)
  (fin:∀ ys H,Ext H1 H→H acc=some (.lst ys)→Pv xs.length ys H→R H):jca (Itt K a) (jcf 0) ts te acc (u :: fr) H1 R:=by
 refine j4n xs.length hz hn (fun σ=>∃ u,σ=u :: fr) Pv ⟨u,rfl⟩ h0 kp (fun i H hi e=>⟨xs,xs[i],e.seqT hx,List.getElem?_eq_getElem hi⟩) (fun H e=>⟨xs,e.seqT hx,Nat.le_refl _⟩) len ?_ fin
 rintro i σ ys H x H' G hi e ⟨u,rfl⟩ pv ⟨rfl,y⟩ hG
 have:=y xs (e.seqT hx)
 exact hG _ _ ⟨some x,rfl⟩ (turn i x ys _ this e pv)
end
def ItA (b:Bool) (h:Heap) (it l:Addr) (k:Nat):Prop:=match b with | false=>h.IsListIter it l k | true=>h.IsTupleIter it l k
def SqA (b:Bool) (h:Heap) (l:Addr) (xs:Array Value):Prop:=match b with | false=>h.IsList l xs | true=>h.IsTuple l xs
theorem ItA.ex {b:Bool}{h:Heap}{it l:Addr}{k:Nat} (x:ItA b h it l k):∃ o,h.get? it=some o∧∀ v,o.data≠.cell v:=by
 cases b <;> (obtain⟨o,e,_,d⟩:=x;exact⟨o,e,fun v z=>by rw[d] at z;cases z⟩)
theorem ItA.at {b:Bool}{h h':Heap}{it l:Addr}{k:Nat} (x:ItA b h it l k) (f:∀ o,h.get? it=some o→h'.get? it=some o):ItA b h' it l k:=by
 cases b <;> (obtain⟨o,e,r⟩:=x;exact⟨o,f o e,r⟩)
theorem SqA.at {b:Bool}{h h':Heap}{l:Addr}{xs:Array Value} (x:SqA b h l xs) (f:∀ o,h.get? l=some o→h'.get? l=some o):SqA b h' l xs:=by
 cases b <;> (obtain⟨o,e,r⟩:=x;exact⟨o,f o e,r⟩)
theorem SqA.lt {b:Bool}{h:Heap}{l:Addr}{xs:Array Value} (x:SqA b h l xs):l < h.objs.size:=by
 cases b <;> (obtain⟨o,e,_⟩:=x;exact Heap.lt_size e)
theorem ItA.lt {b:Bool}{h:Heap}{it l:Addr}{k:Nat} (x:ItA b h it l k):it < h.objs.size:=by
 obtain⟨o,e,_⟩:=x.ex;exact Heap.lt_size e
section
variable {prog:Program}{w:World}{A:Around}{E:Value→Shared→Prop}{s:Shared}
theorem ja8 {it l:Addr}{k:Nat}{xs:Array Value}{x:Value}{Q:Value→Shared→Prop} (i0:s.heap.IsTupleIter it l k) (l0:s.heap.IsTuple l xs) (hx:xs[k]?=some x)
  (q:∀ h',h'.IsTupleIter it l (k+1)→Heap.SameBut it s.heap h'→Q x { s with heap:=h' }):wpAny (model prog w) A (Builtin.SmallTypes.nextOf (.ref it)) Q E s:=by
 obtain⟨oi,ei,ci,di⟩:=id i0
 obtain⟨ol,el,_,nl,dl⟩:=l0
 unfold Builtin.SmallTypes.nextOf
 refine wpAny_bind (wpAny_callSpecial?_slot (name:=Str.ofString "__next__") i0.typeIs F.slot_tuple_iterator_next (wpAny_call_entry F.slot_tuple_iterator_next i0.typeIs F.entry_tuple_iterator_next ?_ (F.args_tuple_iterator_next_1 _)))
 show wpAny _ _ (field (.ref it) 0 >>= _) _ _ _;refine wpAny_bind (wpAny_field ei di (x:=.ref l) rfl ?_)
 show wpAny _ _ (if (Value.ref l == Value.none)=true then _ else _) _ _ _;rw[if_neg (show ¬ ((Value.ref l == Value.none)=true) from fun z=>Bool.false_ne_true z)]
 show wpAny _ _ (field (.ref it) 1 >>= _) _ _ _;refine wpAny_bind (wpAny_field ei di (x:=.int k 0) rfl ?_)
 show wpAny _ _ (seqItems? (.ref l) >>= _) _ _ _;refine wpAny_bind (wpAny_seqItems el dl ?_)
 simp only[Int.toNat_natCast,hx];refine wpAny_bind (wpAny_setField ei di (by simp) (wpAny_pure ⟨x,rfl,wpAny_pure (q _ ⟨_,Heap.get?_update_self _ ei (Obj.isFreed_of_fields (Obj.data_mapFields di _)),(Obj.cls_mapFields ..).trans ci,?_⟩ (Heap.SameBut.update ..))⟩))
 rw[Obj.data_mapFields di];simp[rawInt]
theorem jcy {it l:Addr}{k:Nat}{xs:Array Value}{Q:Value→Shared→Prop} (hh:A.handled=none) (i0:s.heap.IsTupleIter it l k) (l0:s.heap.IsTuple l xs) (hx:xs[k]?=none)
  (q:∀ h' e,Heap.ExtBut it s.heap h'→(∃ o,h'.get? e=some o∧o.cls=.type "StopIteration")→E (.ref e) { s with heap:=h' }):wpAny (model prog w) A (Builtin.SmallTypes.nextOf (.ref it)) Q E s:=by
 obtain⟨oi,ei,ci,di⟩:=id i0
 obtain⟨ol,el,_,nl,dl⟩:=l0
 unfold Builtin.SmallTypes.nextOf
 refine wpAny_bind (wpAny_callSpecial?_slot (name:=Str.ofString "__next__") i0.typeIs F.slot_tuple_iterator_next (wpAny_call_entry F.slot_tuple_iterator_next i0.typeIs F.entry_tuple_iterator_next ?_ (F.args_tuple_iterator_next_1 _)))
 show wpAny _ _ (field (.ref it) 0 >>= _) _ _ _;refine wpAny_bind (wpAny_field ei di (x:=.ref l) rfl ?_)
 show wpAny _ _ (if (Value.ref l == Value.none)=true then _ else _) _ _ _;rw[if_neg (show ¬ ((Value.ref l == Value.none)=true) from fun z=>Bool.false_ne_true z)]
 show wpAny _ _ (field (.ref it) 1 >>= _) _ _ _;refine wpAny_bind (wpAny_field ei di (x:=.int k 0) rfl ?_)
 show wpAny _ _ (seqItems? (.ref l) >>= _) _ _ _;refine wpAny_bind (wpAny_seqItems el dl ?_)
 simp only[Int.toNat_natCast,hx];refine wpAny_bind (wpAny_rule (wpAny_bind (wpAny_setField ei di (by simp) ?_)))
 show wpAny _ _ (newExc (.type "StopIteration") [] >>= _) _ _ _;refine wpAny_bind ?_;simp only[newExc,newTuple]
 refine wpAny_bind (wpAny_newObj_type ?_ (by size_fits));refine wpAny_bind (m:=firstArgMember _ _) (wpAny_of_eq (a:=Value.none) (by first | rfl | (simp only[firstArgMember];rfl)) ?_)
 refine wpAny_newObj_type ?_ (by size_fits);simp only[raiseNew];refine wpAny_bind (wpAny_handled ?_)
 first | rw[show A.in1.handled=none from hh] | rw[hh]
 refine wpAny_bind (wpAny_pure (wpAny_throw ?_));exact q _ _ (((Heap.SameBut.update ..).extBut.push _).push _) ⟨_,Heap.get?_push_size _ rfl,rfl⟩
theorem j35 {b:Bool}{it l:Addr}{k:Nat}{xs:Array Value}{x:Value}{Q:Value→Shared→Prop} (i0:ItA b s.heap it l k) (l0:SqA b s.heap l xs) (hx:xs[k]?=some x)
  (q:∀ h',ItA b h' it l (k+1)→Heap.SameBut it s.heap h'→Q x { s with heap:=h' }):wpAny (model prog w) A (Builtin.SmallTypes.nextOf (.ref it)) Q E s:=by
 cases b
 ·exact wpAny_nextOf_list_item i0 l0 hx q
 ·exact ja8 i0 l0 hx q
theorem j7x {b:Bool}{it l:Addr}{k:Nat}{xs:Array Value}{Q:Value→Shared→Prop} (hh:A.handled=none) (i0:ItA b s.heap it l k) (l0:SqA b s.heap l xs) (hx:xs[k]?=none)
  (q:∀ h' e,Heap.ExtBut it s.heap h'→(∃ o,h'.get? e=some o∧o.cls=.type "StopIteration")→E (.ref e) { s with heap:=h' }):wpAny (model prog w) A (Builtin.SmallTypes.nextOf (.ref it)) Q E s:=by
 cases b
 ·exact wpAny_nextOf_list_end hh i0 l0 hx q
 ·exact jcy hh i0 l0 hx q
theorem jcz {c d:Bool}{z TI TO i1 i2 l1 l2:Addr}{k:Nat}{xs ys:Array Value}{x y p q:Value}{Q:Option Value→Shared→Prop} (D:ZipApart z TI TO i1 i2 l1 l2)
  (hz:IsZip s.heap z TI TO .none) (hI:IsPair s.heap TI (.ref i1) (.ref i2)) (hO:IsPair s.heap TO p q) (a1:ItA c s.heap i1 l1 k) (a2:ItA d s.heap i2 l2 k) (b1:SqA c s.heap l1 xs) (b2:SqA d s.heap l2 ys) (hx:xs[k]?=some x) (hy:ys[k]?=some y)
  (hQ:∀ h',IsZip h' z TI TO (rawInt s.heap.objs.size)→IsPair h' TO x y→ItA c h' i1 l1 (k+1)→ItA d h' i2 l2 (k+1)→IsPair h' s.heap.objs.size x y →
   (∀ e o,e≠z→e≠TO→e≠i1→e≠i2→s.heap.get? e=some o→h'.get? e=some o)→Q (some (.ref s.heap.objs.size)) { s with heap:=h' }):wpAny (model prog w) A (pyNext (.ref z)) Q E s:=by
 have tz:s.TypeIs (.ref z) "zip":=⟨_,hz,rfl⟩
 unfold pyNext
 refine wpAny_bind (wpAny_attempt (wpAny_callSpecial?_slot (name:=Str.ofString "__next__") tz F.slot_zip_next (wpAny_call_entry F.slot_zip_next tz F.entry_zip_next ?_ (F.args_zip_next_1 _))))
 show wpAny _ _ (field (.ref z) 2 >>= _) _ _ _;refine wpAny_bind (wpAny_field hz rfl (x:=.bool false) rfl ?_)
 show wpAny _ _ (field (.ref z) 3 >>= _) _ _ _;refine wpAny_bind (wpAny_field hz rfl (x:=.ref TI) rfl (wpAny_bind (wpAny_seqItems hI rfl ?_)))
 show wpAny _ _ (Builtin.SmallTypes.ownedTupleIsFree (.ref z) >>= _) _ _ _;refine wpAny_bind ?_;unfold Builtin.SmallTypes.ownedTupleIsFree
 refine wpAny_bind (wpAny_field hz rfl (x:=.none) rfl (wpAny_pure ?_));simp only[if_true]
 refine wpAny_bind (wpAny_rule (wpAny_bind (wpAny_field hz rfl (x:=.ref TO) rfl (wpAny_bind (wpAny_setField_rec hz (by simp) fun g1 z1 s1=>?_)))))
 replace z1:IsZip g1 z TI TO .ellipsis:=z1
 refine wpAny_bind ?_;simp only[List.zipIdx_cons,List.zipIdx_nil,List.forIn_cons,List.forIn_nil]
 refine wpAny_bind (wpAny_bind (wpAny_onRaise ?_))
 show wpAny _ _ (Builtin.SmallTypes.nextOf (.ref i1) >>= _) _ _ _
 refine wpAny_bind (j35 (a1.at fun o e=>s1.extBut _ o D.i1z e) (b1.at fun o e=>s1.extBut _ o D.l1z e) hx fun g2 j1 s2=>wpAny_pure ?_)
 have o2:IsPair g2 TO p q:=s2.extBut _ _ D.TOi1 (s1.extBut _ _ D.TOz hO)
 refine wpAny_bind (wpAny_seqItems o2 rfl (wpAny_bind (wpAny_updateSeq_pair o2 fun g3 o3 s3=>wpAny_bind (wpAny_letGo (wpAny_pure ?_)))))
 replace o3:IsPair g3 TO x q:=o3
 refine wpAny_bind (wpAny_bind (wpAny_onRaise ?_))
 show wpAny _ _ (Builtin.SmallTypes.nextOf (.ref i2) >>= _) _ _ _
 refine wpAny_bind (j35 (a2.at fun o e=>s3.extBut _ o D.TOi2.symm (s2.extBut _ o D.i12.symm (s1.extBut _ o D.i2z e))) (b2.at fun o e=>s3.extBut _ o D.l2TO (s2.extBut _ o D.l2i1 (s1.extBut _ o D.l2z e))) hy fun g4 j2 s4=>wpAny_pure ?_)
 have o4:IsPair g4 TO x q:=s4.extBut _ _ D.TOi2 o3
 refine wpAny_bind (wpAny_seqItems o4 rfl (wpAny_bind (wpAny_updateSeq_pair o4 fun g5 o5 s5=>wpAny_bind (wpAny_letGo (wpAny_pure (wpAny_pure ?_))))))
 replace o5:IsPair g5 TO x y:=o5
 refine wpAny_bind (wpAny_seqItems o5 rfl (wpAny_bind (wpAny_newTuple ?_)))
 have n5:g5.objs.size=s.heap.objs.size:=by rw[s5.1,s4.1,s3.1,s2.1,s1.1]
 have z5:IsZip g5 z TI TO .ellipsis:=s5.extBut _ _ D.TOz.symm (s4.extBut _ _ D.i2z.symm (s3.extBut _ _ D.TOz.symm (s2.extBut _ _ D.i1z.symm z1)))
 have k5:∀ e o,e≠z→e≠TO→e≠i1→e≠i2→s.heap.get? e=some o→g5.get? e=some o:=fun e o q1 q2 q3 q4 h=>s5.extBut _ _ q2 (s4.extBut _ _ q4 (s3.extBut _ _ q2 (s2.extBut _ _ q3 (s1.extBut _ _ q1 h))))
 have j5:ItA c g5 i1 l1 (k+1):=j1.at fun o e=>s5.extBut _ o D.TOi1.symm (s4.extBut _ o D.i12 (s3.extBut _ o D.TOi1.symm e))
 have m5:ItA d g5 i2 l2 (k+1):=j2.at fun o e=>s5.extBut _ o D.TOi2.symm e
 have lz:z < g5.objs.size:=Heap.lt_size z5
 show wpAny _ _ (Builtin.SmallTypes.ownedTupleHandOut (.ref z) (.ref g5.objs.size) >>= _) _ _ _;refine wpAny_bind ?_;unfold Builtin.SmallTypes.ownedTupleHandOut
 have z6:IsZip (g5.push { cls:=.type "tuple",data:=.seq #[x,y] }) z TI TO .ellipsis:=Heap.get?_push_of_some _ z5
 refine wpAny_bind (wpAny_setField_rec z6 (by simp) fun g7 z7 s7=>?_)
 replace z7:IsZip g7 z TI TO (rawInt g5.objs.size):=z7
 refine wpAny_setField_rec z7 (by simp) fun g8 z8 s8=>?_
 replace z8:IsZip g8 z TI TO (rawInt g5.objs.size):=z8
 have k8:∀ e o,e≠z→g5.get? e=some o→g8.get? e=some o:=fun e o q1 h=>s8.extBut _ _ q1 (s7.extBut _ _ q1 (Heap.get?_push_of_some _ h))
 have t8:IsPair g8 g5.objs.size x y:=s8.extBut _ _ (Nat.ne_of_gt lz) (s7.extBut _ _ (Nat.ne_of_gt lz) (Heap.get?_push_size _ rfl))
 refine wpAny_pure ⟨_,rfl,wpAny_pure ?_⟩
 rw[n5] at z8 t8
 show Q (some (.ref g5.objs.size)) _
 rw[n5]
 exact hQ g8 z8 (k8 _ _ D.TOz o5) (j5.at fun o e=>k8 _ o D.i1z e) (m5.at fun o e=>k8 _ o D.i2z e) t8 fun e o q1 q2 q3 q4 h=>k8 e o q1 (k5 e o q1 q2 q3 q4 h)
theorem jfq {c d:Bool}{z TI TO i1 i2 l1 l2:Addr}{k:Nat}{xs ys:Array Value}{p q:Value}{Q:Option Value→Shared→Prop} (hh:A.handled=none) (D:ZipApart z TI TO i1 i2 l1 l2)
  (hz:IsZip s.heap z TI TO .none) (hI:IsPair s.heap TI (.ref i1) (.ref i2)) (hO:IsPair s.heap TO p q) (a1:ItA c s.heap i1 l1 k) (a2:ItA d s.heap i2 l2 k) (b1:SqA c s.heap l1 xs) (b2:SqA d s.heap l2 ys) (hend:xs[k]?=none∨ys[k]?=none)
  (hQ:∀ h',(∀ e o,e≠z→e≠TO→e≠i1→e≠i2→s.heap.get? e=some o→h'.get? e=some o)→Q none { s with heap:=h' }):wpAny (model prog w) A (pyNext (.ref z)) Q E s:=by
 have tz:s.TypeIs (.ref z) "zip":=⟨_,hz,rfl⟩
 have stopped:∀ {h':Heap}{e:Addr},(∃ o,h'.get? e=some o∧o.cls=.type "StopIteration")→(∀ e o,e≠z→e≠TO→e≠i1→e≠i2→s.heap.get? e=some o→h'.get? e=some o) →
   wpAny (model prog w) A (do if ← isInstance (.ref e) (.type "StopIteration") then pure (none:Option Value) else throw (.ref e)) Q E { s with heap:=h' }:=fun {h' e} ⟨o,ho,hc⟩ hk =>
  wpAny_bind (wpAny_isInstance (T:="StopIteration") (b:=true) ⟨o,ho,hc⟩ isSubtype_stop (wpAny_pure (hQ _ hk)))
 unfold pyNext
 refine wpAny_bind (wpAny_attempt (wpAny_callSpecial?_slot (name:=Str.ofString "__next__") tz F.slot_zip_next (wpAny_call_entry F.slot_zip_next tz F.entry_zip_next ?_ (F.args_zip_next_1 _))))
 show wpAny _ _ (field (.ref z) 2 >>= _) _ _ _;refine wpAny_bind (wpAny_field hz rfl (x:=.bool false) rfl ?_)
 show wpAny _ _ (field (.ref z) 3 >>= _) _ _ _;refine wpAny_bind (wpAny_field hz rfl (x:=.ref TI) rfl (wpAny_bind (wpAny_seqItems hI rfl ?_)))
 show wpAny _ _ (Builtin.SmallTypes.ownedTupleIsFree (.ref z) >>= _) _ _ _;refine wpAny_bind ?_;unfold Builtin.SmallTypes.ownedTupleIsFree
 refine wpAny_bind (wpAny_field hz rfl (x:=.none) rfl (wpAny_pure ?_));simp only[if_true]
 refine wpAny_bind (wpAny_rule (wpAny_bind (wpAny_field hz rfl (x:=.ref TO) rfl (wpAny_bind (wpAny_setField_rec hz (by simp) fun g1 z1 s1=>?_)))))
 replace z1:IsZip g1 z TI TO .ellipsis:=z1
 refine wpAny_bind ?_;simp only[List.zipIdx_cons,List.zipIdx_nil,List.forIn_cons,List.forIn_nil]
 refine wpAny_bind (wpAny_bind (wpAny_onRaise ?_))
 show wpAny _ _ (Builtin.SmallTypes.nextOf (.ref i1) >>= _) _ _ _
 cases hx:xs[k]? with
 | none =>
  refine wpAny_bind (j7x hh (a1.at fun o e=>s1.extBut _ o D.i1z e) (b1.at fun o e=>s1.extBut _ o D.l1z e) hx fun g2 e s2 ⟨oe,he,ce⟩=>?_)
  have z2:IsZip g2 z TI TO .ellipsis:=s2 _ _ D.i1z.symm z1
  have ez:e≠z:=fun y=>by subst y;rw[z2] at he;cases he;simp at ce
  exact wpAny_setField_rec z2 (by simp) fun g3 _ s3=>stopped ⟨oe,s3.extBut _ _ ez he,ce⟩ fun e o q1 _ q3 _ h=>s3.extBut _ _ q1 (s2 _ _ q3 (s1.extBut _ _ q1 h))
 | some x =>
  have hy:ys[k]?=none:=hend.resolve_left (by rw[hx];simp)
  refine wpAny_bind (j35 (a1.at fun o e=>s1.extBut _ o D.i1z e) (b1.at fun o e=>s1.extBut _ o D.l1z e) hx fun g2 j1 s2=>wpAny_pure ?_)
  have o2:IsPair g2 TO p q:=s2.extBut _ _ D.TOi1 (s1.extBut _ _ D.TOz hO)
  refine wpAny_bind (wpAny_seqItems o2 rfl (wpAny_bind (wpAny_updateSeq_pair o2 fun g3 o3 s3=>wpAny_bind (wpAny_letGo (wpAny_pure ?_)))))
  refine wpAny_bind (wpAny_bind (wpAny_onRaise ?_))
  show wpAny _ _ (Builtin.SmallTypes.nextOf (.ref i2) >>= _) _ _ _
  refine wpAny_bind (j7x hh (a2.at fun o e=>s3.extBut _ o D.TOi2.symm (s2.extBut _ o D.i12.symm (s1.extBut _ o D.i2z e))) (b2.at fun o e=>s3.extBut _ o D.l2TO (s2.extBut _ o D.l2i1 (s1.extBut _ o D.l2z e))) hy fun g4 e s4 ⟨oe,he,ce⟩=>?_)
  have z4:IsZip g4 z TI TO .ellipsis:=s4 _ _ D.i2z.symm (s3.extBut _ _ D.TOz.symm (s2.extBut _ _ D.i1z.symm z1))
  have ez:e≠z:=fun y=>by subst y;rw[z4] at he;cases he;simp at ce
  exact wpAny_setField_rec z4 (by simp) fun g5 _ s5=>stopped ⟨oe,s5.extBut _ _ ez he,ce⟩ fun e o q1 q2 q3 q4 h=>s5.extBut _ _ q1 (s4 _ _ q4 (s3.extBut _ _ q2 (s2.extBut _ _ q3 (s1.extBut _ _ q1 h))))
def itO (b:Bool) (l:Addr):Obj:={ cls:=.type (if b then "tuple_iterator" else "list_iterator"),data:=.fields #[.ref l,.int 0 0] }
theorem jnd {b:Bool}{l:Addr}{xs:Array Value}{Q:Value→Shared→Prop} (h:SqA b s.heap l xs) (q:Q (.ref s.heap.objs.size) { s with heap:=s.heap.push (itO b l) }):wpAny (model prog w) A (pyIter (.ref l)) Q E s:=by
 cases b
 ·exact wpAny_pyIter_list h q
 ·exact wpAny_pyIter_tuple h q
theorem jfr {b:Bool}{l it:Addr}{h:Heap} (e:h.get? it=some (itO b l)):ItA b h it l 0:=by
 cases b <;> exact⟨_,e,rfl,rfl⟩
abbrev zh1 (c:Bool) (h:Heap) (l1:Addr):Heap:=h.push (itO c l1)
abbrev zh2 (c d:Bool) (h:Heap) (l1 l2:Addr):Heap:=(zh1 c h l1).push (itO d l2)
abbrev zh3 (c d:Bool) (h:Heap) (l1 l2:Addr):Heap:=(zh2 c d h l1 l2).push { cls:=.type "tuple",data:=.seq #[.ref h.objs.size,.ref (zh1 c h l1).objs.size] }
abbrev zh4 (c d:Bool) (h:Heap) (l1 l2:Addr):Heap:=(zh3 c d h l1 l2).push { cls:=.type "tuple",data:=.seq #[.none,.none] }
abbrev zh5 (c d:Bool) (h:Heap) (l1 l2:Addr):Heap:=(zh4 c d h l1 l2).push { cls:=.type "zip",data:=.fields #[.none,.bool false,.bool false,.ref (zh2 c d h l1 l2).objs.size,.ref (zh3 c d h l1 l2).objs.size] }
theorem jfs (c d:Bool) (l1 l2:Addr) (xs ys:Array Value):Meets (Builtin.«zip.__new__» ⟨[.type "zip",.ref l1,.ref l2],[]⟩) (fun _ R s=>SqA c s.heap l1 xs∧SqA d s.heap l2 ys∧R (.ok (.ret (.ref (zh4 c d s.heap l1 l2).objs.size))) { s with heap:=zh5 c d s.heap l1 l2 }) :=
 .of_wp fun prog w A R s h=>by
  obtain⟨hp,g,dd,tk,os⟩:=s
  obtain⟨m1,m2,h⟩:=h
  have hsub:=PySem.sub_zip
  have M1:SqA c (Shared.heap ⟨hp,g,dd,tk,os⟩) l1 xs:=m1
  have M2:SqA d (Shared.heap ⟨hp.push (itO c l1),g,dd,tk,os⟩) l2 ys:=m2.at fun o e=>Heap.get?_push_of_some _ e
  wp_walk using jnd M1,jnd M2
  exact⟨_,rfl,h⟩
theorem jd0 {c d:Bool}{l1 l2:Addr}{xs ys:Array Value}{Q:Value→Shared→Prop} (m1:SqA c s.heap l1 xs) (m2:SqA d s.heap l2 ys)
  (h:∀ h',IsZip h' (s.heap.objs.size+4) (s.heap.objs.size+2) (s.heap.objs.size+3) .none→IsPair h' (s.heap.objs.size+2) (.ref s.heap.objs.size) (.ref (s.heap.objs.size+1)) →
   IsPair h' (s.heap.objs.size+3) .none .none→ItA c h' s.heap.objs.size l1 0→ItA d h' (s.heap.objs.size+1) l2 0→(∀ e o,s.heap.get? e=some o→h'.get? e=some o)→Q (.ref (s.heap.objs.size+4)) { s with heap:=h' }) :
  wpAny (model prog w) A (call (.type "zip") [.ref l1,.ref l2]) Q E s:=by
 refine callType_new F.called_zip (by decide) (F.typeCall_zip_2 _ _) (F.newCall_zip_2 _ _) (fun obj=>F.args_object_init_3 obj _ _) F.entry_zip_new (jfs c d l1 l2 xs ys) ⟨m1,m2,?_⟩
 have n1:(zh1 c s.heap l1).objs.size=s.heap.objs.size+1:=Heap.size_push ..
 have n2:(zh2 c d s.heap l1 l2).objs.size=s.heap.objs.size+2:=by rw[Heap.size_push,n1]
 have n3:(zh3 c d s.heap l1 l2).objs.size=s.heap.objs.size+3:=by rw[Heap.size_push,n2]
 have n4:(zh4 c d s.heap l1 l2).objs.size=s.heap.objs.size+4:=by rw[Heap.size_push,n3]
 have up1:∀ {h:Heap}{o u:Obj}{e:Addr},h.get? e=some u→(h.push o).get? e=some u:=fun q=>Heap.get?_push_of_some _ q
 have g5:(zh5 c d s.heap l1 l2).get? (zh4 c d s.heap l1 l2).objs.size=some _:=Heap.get?_push_size _ rfl
 have g4:(zh5 c d s.heap l1 l2).get? (zh3 c d s.heap l1 l2).objs.size=some _:=up1 (Heap.get?_push_size _ rfl)
 have g3:(zh5 c d s.heap l1 l2).get? (zh2 c d s.heap l1 l2).objs.size=some _:=up1 (up1 (Heap.get?_push_size _ rfl))
 have g2:(zh5 c d s.heap l1 l2).get? (zh1 c s.heap l1).objs.size=some (itO d l2):=up1 (up1 (up1 (Heap.get?_push_size _ (by cases d <;> rfl))))
 have g1:(zh5 c d s.heap l1 l2).get? s.heap.objs.size=some (itO c l1):=up1 (up1 (up1 (up1 (Heap.get?_push_size _ (by cases c <;> rfl)))))
 show _∧_
 rw[n2,n3,n4] at g5
 rw[n1,n2] at g3
 rw[n3] at g4
 rw[n1] at g2
 rw[n4]
 exact⟨⟨_,g5,rfl⟩,h _ g5 g3 g4 (jfr g1) (jfr g2) fun e o q=>up1 (up1 (up1 (up1 (up1 q))))⟩
end
def SqE (K:PySem.W.Frag) (H:Hp) (a:Addr) (xs:List V):Bool→Prop
 | false=>SqL K H a xs
 | true=>SqT K H a xs
theorem SqE.mono {K:PySem.W.Frag}{H H':Hp}{a:Addr}{xs:List V}{b:Bool} (e:Ext H H') (h:SqE K H a xs b):SqE K H' a xs b:=by
 cases b
 ·exact e.seqL h
 ·exact e.seqT h
theorem Inv.sqe {X:Cx}{pins:List (Addr × Obj)}{σ:St}{H:Hp}{s:Shared}{a:Addr}{xs:List V}{b:Bool} (I:Inv X pins σ H s) (h:SqE X.K H a xs b):∃ its:List Value,Vals xs its∧SqA b s.heap a its.toArray∧xs.length≤sizeLine:=by
 cases b
 ·obtain⟨its,r,p,z⟩:=I.list h;exact⟨its,r,p.isList,z⟩
 ·obtain⟨its,r,p,z⟩:=I.tuple h;exact⟨its,r,p,z⟩
theorem Inv.sqe_inj {X:Cx}{pins:List (Addr × Obj)}{σ:St}{H:Hp}{s:Shared}{a:Addr}{xs ys:List V}{b:Bool} (I:Inv X pins σ H s) (h:SqE X.K H a xs b) (h':SqE X.K H a ys b):xs=ys:=by
 cases b
 ·exact I.list_inj h h'
 ·exact I.tuple_inj h h'
def Itz2 (K:PySem.W.Frag) (c d:Bool) (p q:Addr):It :=
 ⟨fun i H=>∃ xs ys,SqE K H p xs c∧SqE K H q ys d∧i < xs.length∧i < ys.length,
   fun i H x H'=>∃ r u v,H r=none∧x=.ref r∧H'=upd H r (.tup [u,v])∧∀ xs ys,SqE K H p xs c→SqE K H q ys d→xs[i]?=some u∧ys[i]?=some v,
   fun i H=>∃ xs ys,SqE K H p xs c∧SqE K H q ys d∧(xs.length≤i∨ys.length≤i)⟩
def zst (c d:Bool) (z TI TO i1 i2 l1 l2:Addr) (i:Nat) (h:Heap):Prop:=IsZip h z TI TO .none∧IsPair h TI (.ref i1) (.ref i2)∧(∃ a b,IsPair h TO a b)∧ItA c h i1 l1 i∧ItA d h i2 l2 i
theorem jd1 {P:Program}{w:World}{K:PySem.W.Frag}{es:List Expr}{kx:Nat}{tp:Pos}{cc dd:Bool}{z TI TO i1 i2 l1 l2:Addr} (D:ZipApart z TI TO i1 i2 l1 l2) :
  Turn P w K (.Tuple es kx tp) (Itz2 K cc dd l1 l2) [z,TI,TO,i1,i2] z (zst cc dd z TI TO i1 i2 l1 l2) where
 mem:=by simp
 obj:=fun i h st b hb=>by
  obtain⟨hz,hTI,⟨a,c,hTO⟩,s1,s2⟩:=st
  simp only[List.mem_cons,List.mem_nil_iff,or_false] at hb
  rcases hb with rfl | rfl | rfl | rfl | rfl
  ·exact⟨_,hz,fun v q=>by cases q⟩
  ·exact⟨_,hTI,fun v q=>by cases q⟩
  ·exact⟨_,hTO,fun v q=>by cases q⟩
  ·exact s1.ex
  ·exact s2.ex
 keep:=fun i h h' st k=>by
  obtain⟨hz,hTI,⟨a,c,hTO⟩,s1,s2⟩:=st
  exact⟨k z (by simp) _ hz,k TI (by simp) _ hTI,⟨a,c,k TO (by simp) _ hTO⟩,s1.at fun o e=>k i1 (by simp) o e,s2.at fun o e=>k i2 (by simp) o e⟩
 item:=by
  intro X hP hw hK hc i pins s σ H E I hf st hg
  subst hP hw hK
  obtain⟨xs,ys,hx,hy,lx,ly⟩:=hg
  obtain⟨hz,hTI,⟨a,c,hTO⟩,s1,s2⟩:=id st
  obtain⟨us,ru,pu,zu⟩:=I.sqe hx
  obtain⟨ws,rw',pw,zw⟩:=I.sqe hy
  obtain⟨u,eu,r1⟩:=ru.get (List.getElem?_eq_getElem lx)
  obtain⟨v,ev,r2⟩:=rw'.get (List.getElem?_eq_getElem ly)
  refine jcz D hz hTI hTO s1 s2 pu pw (x:=u) (y:=v) (by simpa using eu) (by simpa using ev) fun h1 z1 t1 j1 j2 np kk=>⟨_,rfl,?_⟩
  refine wpAny_letOwnedTupleGo_zip z1 fun h2 z2 sb=>?_
  have nT:s.heap.objs.size≠z:=Nat.ne_of_gt (Heap.lt_size hz)
  have kk2:∀ b o,b∉[z,TI,TO,i1,i2]→s.heap.get? b=some o→h2.get? b=some o:=fun b o hb e=>by
   simp only[List.mem_cons,List.mem_nil_iff,or_false,not_or] at hb
   exact sb.extBut b o hb.1 (kk b o hb.1 hb.2.2.1 hb.2.2.2.1 hb.2.2.2.2 e)
  have np2:IsPair h2 s.heap.objs.size u v:=sb.extBut _ _ nT np
  have I2:=I.turnLaid (t':=s.toks) (a:=s.heap.objs.size) (o:=.tup [xs[i],ys[i]]) kk2 hf (Nat.le_refl _) (show ObjOk X.prog X.w _ h2 _ (.tup [xs[i],ys[i]]) from⟨by show 2≤sizeLine;rw[sizeLine_eq];decide,[u,v],.cons r1 (.cons r2 .nil),⟨⟨_,np2,rfl,0,rfl⟩,_,np2,rfl⟩⟩)
  refine⟨.ref s.heap.objs.size,_,I2,rfl,⟨_,_,_,I.hok.fresh (Nat.le_refl _),rfl,rfl,fun xs' ys' e1 e2=>?_⟩,?_,fun b hb=>?_⟩
  ·rw[I.sqe_inj e1 hx,I.sqe_inj e2 hy]
   exact⟨List.getElem?_eq_getElem lx,List.getElem?_eq_getElem ly⟩
  ·exact⟨z2,sb.extBut _ _ D.TIz (kk TI _ D.TIz D.TITO D.TIi1 D.TIi2 hTI),⟨_,_,sb.extBut _ _ D.TOz t1⟩,j1.at fun o e=>sb.extBut _ o D.i1z e,j2.at fun o e=>sb.extBut _ o D.i2z e⟩
  ·rw[j08 (fun q=>?_)]
   ·exact (hf b hb).1
   ·have lt:b < s.heap.objs.size:=by
     simp only[List.mem_cons,List.mem_nil_iff,or_false] at hb
     rcases hb with rfl | rfl | rfl | rfl | rfl
     ·exact Heap.lt_size hz
     ·exact Heap.lt_size hTI
     ·exact Heap.lt_size hTO
     ·exact s1.lt
     ·exact s2.lt
    exact absurd lt (by rw[q];exact Nat.lt_irrefl _)
 done:=by
  intro X hP hw hK hc i pins s σ H E I hf st hg
  subst hP hw hK
  obtain⟨xs,ys,hx,hy,hl⟩:=hg
  obtain⟨hz,hTI,⟨a,c,hTO⟩,s1,s2⟩:=st
  obtain⟨us,ru,pu,zu⟩:=I.sqe hx
  obtain⟨ws,rw',pw,zw⟩:=I.sqe hy
  have l1:=ru.length
  have l2:=rw'.length
  refine jfq (I.ok.hd hc) D hz hTI hTO s1 s2 pu pw ?_ fun h1 kk=>⟨rfl,I.turns (t':=s.toks) (ch:=[z,TI,TO,i1,i2]) (fun b o hb e=>?_) hf⟩
  ·rcases hl with q | q
   ·exact .inl (by simp;omega)
   ·exact .inr (by simp;omega)
  ·simp only[List.mem_cons,List.mem_nil_iff,or_false,not_or] at hb
   exact kk b o hb.1 hb.2.2.1 hb.2.2.2.1 hb.2.2.2.2 e
 self:=fun _ _ _ _ _ st h=>wpAny_pyIter_zip st.1 h
section
variable {X:Cx}
def iZip2 (K:PySem.W.Frag) (ta:TA):TI:=fun σ H R=>ta σ H fun vs H1=>∃ p q xs ys c d,vs=[.ref p,.ref q]∧SqE K H1 p xs c∧SqE K H1 q ys d∧R (Itz2 K c d p q) H1
theorem je8 {es:List Expr}{kx:Nat}{tp:Pos}{a b:Expr}{ta:TA}{p pos:Pos} (hg:Gl X "zip") (hm:X.mg "zip"=none) (ha:PA X [a,b] ta) (hs:starEach [a,b] X.env=[(false,eval a X.env),(false,eval b X.env)]:=by rfl) (hs2:starEach [b] X.env=[(false,eval b X.env)]:=by rfl) :
  PI X (.Tuple es kx tp) (.Call (.Name "zip" p) [a,b] [] pos) (iZip2 X.K ta):=by
 intro pins s σ H R I h
 refine Call_ (j1y I hg hm boot_zip (PyProof.Rows.callWith_type1 (thn (ha pos pins s σ H _ I h) fun us s1 ⟨vs,H1,I1,r1,q1⟩=>?_) (by rw[hs,hs2]) (by rw[hs2];rfl)))
 obtain⟨p1,p2,xs,ys,c,d,e,hx,hy,q⟩:=q1
 subst e
 obtain⟨u,v,rfl,ru,rv⟩:=jhv r1
 cases ru
 cases rv
 obtain⟨i1,ri1,pl1,z1⟩:=I1.sqe hx
 obtain⟨i2,ri2,pl2,z2⟩:=I1.sqe hy
 refine jd0 pl1 pl2 fun h' hz hTI hTO j1 j2 hk=>?_
 have I2:Inv X pins σ H1 { s1 with heap:=h' }:=I1.kept (t':=s1.toks) hk
 refine wpAny_pyIter_zip (s:={ s1 with heap:=h' }) hz ⟨_,[s1.heap.objs.size+4,s1.heap.objs.size+2,s1.heap.objs.size+3,s1.heap.objs.size,s1.heap.objs.size+1],_,_,H1,rfl,I2,jd1 (zipApart_new pl1.lt pl2.lt),⟨hz,hTI,⟨_,_,hTO⟩,j1,j2⟩,fun b hb=>?_,q⟩
 have hb':s1.heap.objs.size≤b:=by
  simp only[List.mem_cons,List.mem_nil_iff,or_false] at hb
  rcases hb with rfl | rfl | rfl | rfl | rfl <;> omega
 exact I1.fpOk hb' (I1.hok.fresh hb')
end
theorem j6t {K:PySem.W.Frag}{p q:Addr}{c d:Bool}{xs ys:List V}{g:TG}{tb:TS}{D:Ends}{σ:St}{H:Hp} (Pv:Nat→St→Hp→Prop) (hl:xs.length=ys.length) (h0:Pv 0 σ H) (hq:∀ i σ H,i≤xs.length→Pv i σ H→SqE K H p xs c∧SqE K H q ys d)
  (hs:∀ i x y σ H r,xs[i]?=some x→ys[i]?=some y→Pv i σ H→H r=none→g (.ref r) σ (upd H r (.tup [x,y])) fun σ2 H2=>tb { D with nx:=Pv (i+1),ct:=Pv (i+1),bk:=D.nx } σ2 H2) (hd:∀ σ H,Pv xs.length σ H→D.nx σ H) :
  ∃ W:Nat→Nat→St→Hp→Prop,(∃ m,W 0 m σ H)∧∀ i m σ H,W i m σ H →
   ((Itz2 K c d p q).stop i H∧D.nx σ H)∨((Itz2 K c d p q).go i H∧∃ N:St→Hp→Prop,(∀ σ' H',N σ' H'→∃ m',m' < m∧W (i+1) m' σ' H')∧∀ x H',(Itz2 K c d p q).yld i H x H'→g x σ H' fun σ2 H2=>tb { D with nx:=N,ct:=N,bk:=D.nx } σ2 H2):=by
 refine⟨fun i m σ H=>m=xs.length-i∧i≤xs.length∧Pv i σ H,⟨xs.length,by simp,Nat.zero_le _,h0⟩,?_⟩
 rintro i m σ H ⟨rfl,hi,pv⟩
 obtain⟨q1,q2⟩:=hq i σ H hi pv
 by_cases hlt:i < xs.length
 ·refine .inr ⟨⟨xs,ys,q1,q2,hlt,by omega⟩,Pv (i+1),fun σ' H' p'=>⟨xs.length-(i+1),by omega,rfl,hlt,p'⟩,fun x H' y=>?_⟩
  obtain⟨r,u,v,n,rfl,rfl,y⟩:=y
  obtain⟨e1,e2⟩:=y xs ys q1 q2
  exact hs i u v σ _ r e1 e2 pv n
 ·have e:i=xs.length:=by omega
  subst e
  exact .inl ⟨⟨xs,ys,q1,q2,.inl (Nat.le_refl _)⟩,hd σ H pv⟩
section
variable {prog:Program}{w:World}{A:Around}{E:Value→Shared→Prop}{s:Shared}
theorem ja9 {b:Bool}{l:Addr}{vs:List Value}{Q:List Value→Shared→Prop} (hl:SqA b s.heap l vs.toArray) (hz:vs.length≤sizeLine)
  (h:Q vs { s with heap:=(s.heap.push (seqObj "list" #[] 0)).update s.heap.objs.size (Obj.mapSeq (·++vs.toArray)) }):wpAny (model prog w) A (collect (.ref l)) Q E s:=by
 cases b with
 | false=>exact collect_list hl h hz
 | true =>
  obtain⟨ob,eb,cb,nb,db⟩:=id hl
  unfold collect;refine wpAny_bind (wpAny_runValue (codeAny_builtin entry_proto_collect' ?_))
  show wpAny _ _ (do again (.builtin "list.__iadd__" ⟨[← newList [],.ref l],[]⟩)) _ _ _;refine wpAny_bind (wpAny_newList (wpAny_pure ⟨Code.quiet_builtin _ (by decide +kernel),codeAny_builtin entry_list_iadd' ?_⟩))
  show wpAny _ _ (Builtin.List.listExtendWith (.ref s.heap.objs.size) (.ref l) (.ref s.heap.objs.size)) _ _ { s with heap:=s.heap.push (seqObj "list" #[] 0) };unfold Builtin.List.listExtendWith
  have eb':(s.heap.push (seqObj "list" #[] 0)).get? l=some ob:=Heap.get?_push_of_some _ eb
  refine wpAny_bind (wpAny_typeOf (T:="tuple") ⟨ob,eb',cb⟩ ?_)
  rw[if_pos (by rw[show (Value.type "tuple" == Value.type "tuple")=true from rfl];simp)]
  refine wpAny_bind (listItems_at eb' db (wpAny_bind (listItems_at (xs:=#[]) (n:=0) (Heap.get?_push_size _ rfl) rfl ?_)));rw[if_neg (by simp)]
  refine wpAny_bind (listUpdate_at (xs:=#[]) (n:=0) (Heap.get?_push_size _ rfl) rfl (wpAny_pure ?_) (Nat.zero_le _) (by show (#[]++vs.toArray).size≤sizeLine+1;simp only[Array.size_append,List.size_toArray,List.length_nil];omega))
  show wpAny (model prog w) A (do let o ← load s.heap.objs.size;match o.data with | .seq xs _=>pure xs.toList | _=>unsupported "internal:collect") Q E { s with heap:=(s.heap.push (seqObj "list" #[] 0)).update s.heap.objs.size (Obj.mapSeq (·++vs.toArray)) }
  refine wpAny_bind (wpAny_load (get?_update_seq (Heap.get?_push_size _ rfl) _) ?_)
  show wpAny _ _ (pure ((#[]:Array Value)++vs.toArray).toList) Q E _;rw[show ((#[]:Array Value)++vs.toArray).toList=vs by simp];exact wpAny_pure h
theorem jiy {b:Bool}{l:Addr}{vs:List Value}{ns:List Int}{Q:Value→Shared→Prop} (hl:SqA b s.heap l vs.toArray) (hz:vs.length≤sizeLine) (hI:IntsAre vs ns) (h64:vs.length < 64)
  (h:∀ (out:Array Value) (ns':List Int),IntsAre out.toList ns'→ns'.Perm ns→ns'.Pairwise (·≤·)→Q (.ref (s.heap.objs.size+1)) { s with heap:=sortedAll s.heap vs out }):wpAny (model prog w) A (call (.builtin "sorted") [.ref l]) Q E s:=by
 refine Calls.call_function_entry kind_sorted plain_sorted entry_sorted (args_sorted1 _) ?_;unfold Builtin.«sorted»
 refine wpAny_bind (m:=checkCount "sorted" 1 1 _) (wpAny_pure (wpAny_bind (ja9 hl hz (wpAny_bind (wpAny_newList ?_)))))
 have n1:((s.heap.push (seqObj "list" #[] 0)).update s.heap.objs.size (Obj.mapSeq (·++vs.toArray))).objs.size=s.heap.objs.size+1:=by rw[Heap.size_update,size_push']
 have o1:(((s.heap.push (seqObj "list" #[] 0)).update s.heap.objs.size (Obj.mapSeq (·++vs.toArray))).push (seqObj "list" vs.toArray 0)).get? (s.heap.objs.size+1)=some (seqObj "list" vs.toArray 0):=by rw[← n1];exact Heap.get?_push_size _ rfl
 show wpAny _ _ _ _ _ { s with heap:=((s.heap.push (seqObj "list" #[] 0)).update s.heap.objs.size (Obj.mapSeq (·++vs.toArray))).push (seqObj "list" vs.toArray 0) };rw[n1]
 exact wpAny_bind (wpAny_holding (wpAny_call_entry slot_list_sort ⟨_,o1,rfl⟩ entry_list_sort (list_sort_tree o1 hI h64 fun out ns' a1 a2 a3=>⟨_,rfl,wpAny_pure ⟨_,rfl,h out ns' a1 a2 a3⟩⟩) (args_list_sort _)))
end
section
variable {X:Cx}
def je9 (K:PySem.W.Frag):List V→Hp→VK→Prop:=fun xs H Q=>∃ (p:Addr) (ns:List Int) (c:Bool),xs=[.ref p]∧SqE K H p (ns.map V.int) c∧ns.length < 64∧∀ l (ns':List Int),H l=none→ns'.Perm ns→ns'.Pairwise (·≤·)→Q (.ref l) (upd H l (.lst (ns'.map V.int)))
theorem jiz:CallR X (.builtin "sorted") (je9 X.K):=by
 intro pins s σ H xs us Q I r h
 obtain⟨p,ns,c,rfl,hq,h64,q⟩:=h
 obtain⟨u,rfl,rx⟩:=j5c r
 cases rx
 obtain⟨its,r',pl,hz⟩:=I.sqe hq
 have hi:IntsAre its ns:=j9z r'
 have hlen:=r'.length
 rw[List.length_map] at hlen hz
 refine jiy pl (by omega) hi (by omega) fun out ns' a1 a2 a3=>?_
 obtain⟨e,he⟩:=sortedAll_at s.heap its out
 refine⟨.ref (s.heap.objs.size+1),_,I.laid (t':=s.toks) (fun b o q=>sortedAll_old q) (Nat.le_succ _) (show ObjOk X.prog X.w _ _ _ (.lst (ns'.map V.int)) from⟨by rw[List.length_map,a2.length_eq];exact hz,out.toList,e,j2s a1,by simpa using he⟩),rfl,q _ ns' (I.hok.fresh (Nat.le_succ _)) a2 a3⟩
def rAll (K:PySem.W.Frag):List V→Hp→VK→Prop:=fun xs H Q=>∃ (p:Addr) (bs:List Bool),xs=[.ref p]∧SqL K H p (bs.map V.bl)∧Q (.bl (bs.all id)) H
theorem jaa:∀ {bs:List Bool}{us:List Value},Vals (bs.map V.bl) us→us=bs.map Value.bool
 | [],us,r=>by cases r;rfl
 | b :: bs,us,r=>by
  cases r with
  | cons r1 r2=>rw[jaa r2,show _=Value.bool b from r1];rfl
theorem jd2:∀ bs:List Bool,(List.range bs.length).all (fun i=>bs.getD i true)=bs.all id:=by
 intro bs
 rw[Bool.eq_iff_iff,List.all_eq_true,List.all_eq_true]
 constructor
 ·intro h x hx
  obtain⟨i,hi,rfl⟩:=List.getElem_of_mem hx
  have:=h i (List.mem_range.mpr hi)
  rwa [List.getD_eq_getElem?_getD,List.getElem?_eq_getElem hi] at this
 ·intro h i hi
  have hi':=List.mem_range.mp hi
  rw[List.getD_eq_getElem?_getD,List.getElem?_eq_getElem hi']
  exact h _ (List.getElem_mem hi')
theorem cAll (hc:X.calm=true):CallR X (.builtin "all") (rAll X.K):=by
 intro pins s σ H xs us Q I r h
 obtain⟨p,bs,rfl,hq,q⟩:=h
 obtain⟨u,rfl,rx⟩:=j5c r
 cases rx
 obtain⟨its,r',pl,hz⟩:=I.list hq
 have e:=jaa r'
 subst e
 refine call_all_walk (wpAny_pyIter_list pl.isList ?_)
 have ne:p≠s.heap.objs.size:=by obtain⟨_,e,_⟩:=pl.isList;exact Nat.ne_of_lt (Heap.lt_size e)
 refine⟨s.heap.objs.size,_,_,_,_,_,fun i=>bs.getD i true,rfl,Walks.list (A:=X.A.in1) (I.ok.hd hc) _ p ne (bs.map Value.bool).toArray,⟨⟨_,Heap.get?_push_size _ rfl,rfl,rfl⟩,Heap.IsList.push pl.isList _⟩,fun i v s' Q' E' hv hQ=>?_,fun h' tk hk=>?_⟩
 ·have hv':(bs.map Value.bool)[i]?=some v:=by simpa using hv
  rw[List.getElem?_map] at hv'
  cases e:bs[i]? with
  | none=>rw[e] at hv';cases hv'
  | some b =>
   rw[e] at hv'
   cases hv'
   refine wpAny_truthy_bool ?_
   have:bs.getD i true=b:=by rw[List.getD_eq_getElem?_getD,e];rfl
   have hQ':Q' (bs.getD i true) s':=hQ
   rw[this] at hQ'
   exact hQ'
 ·refine⟨.bl (bs.all id),H,I.kept (t':=tk) fun b o q=>hk b o (by simp;exact Nat.ne_of_lt (Heap.lt_size q)) (Heap.get?_push_of_some _ q),?_,q⟩
  show Value.bool _=Value.bool _
  rw[← jd2 bs]
  simp
end
mutual
def D.py:D→PyData
 | .non=>.none | .bl b=>.bool b | .int i=>.int i | .str x=>.str x | .tup l=>.tuple (D.pyL l) | .lst l=>.list (D.pyL l) | .dct=>.dict []
def D.pyL:List D→List PyData
 | []=>[]
 | d :: r=>d.py :: D.pyL r
def D.eqOk:D→Bool
 | .str x=>PyData.strOk x
 | .tup l=>D.eqOkL l
 | .lst l=>D.eqOkL l
 | .dct=>false
 | _=>true
def D.eqOkL:List D→Bool
 | []=>true
 | d :: r=>d.eqOk && D.eqOkL r
end
mutual
theorem D.canLay:∀ d:D,d.eqOk=true→d.py.canLay0=true
 | .non,_=>by simp[D.py,PyData.canLay0]
 | .bl _,_=>by simp[D.py,PyData.canLay0]
 | .int _,_=>by simp[D.py,PyData.canLay0]
 | .str x,h=>by simp only[D.eqOk] at h;simpa[D.py,PyData.canLay0] using h
 | .tup l,h=>by simp only[D.eqOk] at h;simpa[D.py,PyData.canLay0] using D.canLayL l h
 | .lst l,h=>by simp only[D.eqOk] at h;simpa[D.py,PyData.canLay0] using D.canLayL l h
 | .dct,h=>by simp[D.eqOk] at h
theorem D.canLayL:∀ l:List D,D.eqOkL l=true→PyData.canLayAll0 (D.pyL l)=true
 | [],_=>by simp[D.pyL,PyData.canLayAll0]
 | d :: r,h=>by
  simp only[D.eqOkL,Bool.and_eq_true] at h
  simp[D.pyL,PyData.canLayAll0,D.canLay d h.1,D.canLayL r h.2]
theorem D.pyDepth:∀ d:D,d.py.depth≤d.depth+1
 | .non=>by simp[D.py,PyData.depth]
 | .bl _=>by simp[D.py,PyData.depth]
 | .int _=>by simp[D.py,PyData.depth]
 | .str _=>by simp[D.py,PyData.depth]
 | .tup l=>by have:=D.pyDepthL l;simp only[D.py,PyData.depth,D.depth];omega
 | .lst l=>by have:=D.pyDepthL l;simp only[D.py,PyData.depth,D.depth];omega
 | .dct=>by simp[D.py,PyData.depth,PyData.depthKv,D.depth]
theorem D.pyDepthL:∀ l:List D,PyData.depthAll (D.pyL l)≤D.depthL l+1
 | []=>by simp[D.pyL,PyData.depthAll]
 | d :: r=>by have a:=D.pyDepth d;have b:=D.pyDepthL r;simp only[D.pyL,PyData.depthAll,D.depthL];omega
end
section
variable {X:Cx}{pins:List (Addr × Obj)}{σ:St}{H:Hp}{s:Shared}
mutual
theorem j36 (I:Inv X pins σ H s):∀ (d:D) {v:V}{u:Value},Rep H d v→RelV v u→d.eqOk=true→∃ as,Reads s.heap u d.py as
 | .non,v,u,h,r,_=>by unfold Rep at h;subst h;cases (show u=Value.none from r);exact⟨_,.none⟩
 | .bl b,v,u,h,r,_=>by unfold Rep at h;subst h;cases (show u=Value.bool b from r);exact⟨_,.bool b⟩
 | .int i,v,u,h,r,_=>by unfold Rep at h;subst h;obtain⟨t,rfl⟩:=r;exact⟨_,.int i t⟩
 | .str x,v,u,h,r,_=>by unfold Rep at h;subst h;obtain⟨t,rfl⟩:=r;exact⟨_,.str x t⟩
 | .tup l,v,u,h,r,ok=>by
  unfold Rep at h
  obtain⟨p,xs,rfl,hp,hl⟩:=h
  cases (show u=Value.ref p from r)
  obtain⟨its,rv,ht,hz⟩:=I.tuple (SqT.of (K:=X.K) hp)
  obtain⟨as,ra⟩:=readsL_of I l hl rv (by simpa[D.eqOk] using ok)
  obtain⟨o,e,c,n,dt⟩:=ht
  exact⟨as,.tuple e c dt (by simpa using ra)⟩
 | .lst l,v,u,h,r,ok=>by
  unfold Rep at h
  obtain⟨p,xs,rfl,hp,hl⟩:=h
  cases (show u=Value.ref p from r)
  obtain⟨its,rv,ht,hz⟩:=I.list (SqL.of (K:=X.K) hp)
  obtain⟨as,ra⟩:=readsL_of I l hl rv (by simpa[D.eqOk] using ok)
  obtain⟨o,e,c,n,dt⟩:=ht.isList
  exact⟨_,.list e c dt (by simpa using ra)⟩
 | .dct,v,u,h,r,ok=>by simp[D.eqOk] at ok
theorem readsL_of (I:Inv X pins σ H s):∀ (l:List D) {vs:List V}{us:List Value},RepL H l vs→Vals vs us→D.eqOkL l=true→∃ as,ReadsAll s.heap us (D.pyL l) as
 | [],vs,us,h,r,_=>by unfold RepL at h;subst h;cases r;exact⟨_,.nil⟩
 | d :: l,vs,us,h,r,ok=>by
  unfold RepL at h
  obtain⟨x,t,rfl,hd,hl⟩:=h
  simp only[D.eqOkL,Bool.and_eq_true] at ok
  cases r with
  | cons r1 r2 =>
   obtain⟨as,a1⟩:=j36 I d hd r1 ok.1
   obtain⟨bs,b1⟩:=readsL_of I l hl r2 ok.2
   exact⟨_,.cons a1 b1⟩
end
def eqD (a b:D):Bool:=PyData.eqv a.py b.py
def rEqD (neg:Bool):R2:=fun x y H Q=>∃ a b,Rep H a x∧Rep H b y∧a.eqOk=true∧b.eqOk=true∧a.depth≤20∧Q (.bl (if neg then !eqD a b else eqD a b)) H
def rEqU:R2:=fun x y H Q=>rEq x y H Q∨rEqD false x y H Q
def rNeU:R2:=fun x y H Q=>rNe x y H Q∨rEqD true x y H Q
theorem op_eqD {k:Nat} (hr:Room k X.A):OpR X (compareOp .Eq) (rEqD false):=by
 intro pins s σ H x y v u Q I rx ry h
 obtain⟨a,b,ha,hb,oa,ob,hd,q⟩:=h
 obtain⟨as,r1⟩:=j36 I a ha rx oa
 obtain⟨bs,r2⟩:=j36 I b hb ry ob
 have h1:=D.pyDepth a
 exact SeqAt.compareEq_reads r1 r2 (D.canLay a oa) (D.canLay b ob) (by have:=hr.units;omega) ⟨.bl (eqD a b),H,I,rfl,q⟩
theorem oEq {k:Nat} (hr:Room k X.A):OpR X (compareOp .Eq) rEqU:=op_eq.or (op_eqD hr)
end
section
variable {X:Cx}
def jj0 (K:PySem.W.Frag):R2:=fun x y H Q=>∃ a b xs ys,x=.ref a∧y=.ref b∧SqT K H a xs∧SqT K H b ys∧xs.length+ys.length≤1000000 ∧
 (xs=[]→Q (.ref b) H)∧(xs≠[]→ys=[]→Q (.ref a) H)∧(xs≠[]→ys≠[]→∀ p,H p=none→Q (.ref p) (upd H p (.tup (xs++ys))))
theorem jft:OpR X (binaryOp .Add) (jj0 X.K):=by
 intro pins s σ H x y v u Q I rx ry h
 obtain⟨a,b,xs,ys,rfl,rfl,ha,hb,hl,q0,q1,q2⟩:=h
 cases rx
 cases ry
 obtain⟨is1,r1,t1,z1⟩:=I.tuple ha
 obtain⟨is2,r2,t2,z2⟩:=I.tuple hb
 have l1:=r1.length
 have l2:=r2.length
 have hz:is1.length+is2.length≤sizeLine:=by rw[sizeLine_eq];omega
 by_cases e:is1=[]
 ·subst e
  have ex:xs=[]:=List.length_eq_zero_iff.mp (by simpa using l1)
  obtain⟨⟨cls,dd,data,sl⟩,ho,hc,n,hd⟩:=id t1
  obtain⟨⟨cls2,dd2,data2,sl2⟩,ho2,hc2,n2,hd2⟩:=id t2
  simp only at hc hd hc2 hd2
  subst hc hd hc2 hd2
  exact concat_meets ⟨_,ho,rfl⟩ ⟨_,ho2,rfl⟩ noFill_tuple_add seq_tuple_add PySem.F.slot_tuple_add PySem.F.entry_tuple_add (PySem.F.args_tuple_add_2 _ _)
   (tuple_addW0 a b _ is2.toArray n n2 dd dd2 sl sl2 (by simp)) ⟨ho,ho2,⟨.ref b,H,I,rfl,q0 ex⟩⟩
 ·have ex:xs≠[]:=fun z=>e (List.length_eq_zero_iff.mp (by rw[← l1,z];rfl))
  refine HT.cat_tup t1 t2 e (fun w=>⟨.ref a,H,I,rfl,q1 ex (List.length_eq_zero_iff.mp (by rw[l2,w];rfl))⟩) (fun w=>?_) hz
  have ey:ys≠[]:=fun z=>w (List.length_eq_zero_iff.mp (by rw[← l2,z];rfl))
  refine⟨.ref s.heap.objs.size,_,I.laid (t':=s.toks) (fun b o e=>Heap.get?_push_of_some _ e) (Nat.le_refl _) (show ObjOk X.prog X.w _ _ _ (.tup (xs++ys)) from⟨by rw[List.length_append];omega,is1++is2,r1.append r2,TupN.new _ _⟩),rfl,q2 ex ey _ (I.hok.fresh (Nat.le_refl _))⟩
def jlt (K:PySem.W.Frag):R2:=fun x y H Q=>(rI0 (fun i j=>.int (i+j)) x y H Q∨rCat x y H Q)∨jj0 K x y H Q
theorem oAddV:OpR X (binaryOp .Add) (jlt X.K):=(op_add.or op_cat).or jft
end
section
variable {K:PySem.W.Frag}{σ:St}{H:Hp}{Q:VK}{D:Ends}
theorem jj1 {i j:Int} (q:Q (.int (i+j)) H):jlt K (.int i) (.int j) H Q:=.inl (.inl ⟨i,j,rfl,rfl,q⟩)
theorem r_catL {l b:Addr}{xs zs:List V} (h1:H l=some (.lst xs)) (h2:H b=some (.lst zs)) (hl:xs.length+zs.length≤1000000) (q:∀ p H',H p=none→H' p=some (.lst (xs++zs))→Ext H H'→Q (.ref p) H'):jlt K (.ref l) (.ref b) H Q :=
 .inl (.inr ⟨l,b,xs,zs,rfl,rfl,h1,h2,Nat.le_trans hl (by rw[sizeLine_eq];decide),fun p n=>q p _ n j07 (j0j n)⟩)
theorem r_sl {r:V→Option Int→Option Int→Hp→VK→Prop}{te:TE}{tl th:TO} (q:te σ H fun x H1=>tl σ H1 fun l H2=>th σ H2 fun u H3=>r x l u H3 Q):tSl r te tl th σ H Q:=q
theorem jfu {R:Option Int→Hp→Prop} (q:R none H):je3 σ H R:=q
def rPart (x:V) (R:Option Int→Hp→Prop) (H:Hp):Prop:=∃ i,x=.int i∧R (some i) H
theorem r_part {te:TE}{R:Option Int→Hp→Prop} (q:te σ H fun x H1=>rPart x R H1):tPart te σ H R:=q
theorem jj2 {i:Int}{R:Option Int→Hp→Prop} (q:R (some i) H):rPart (.int i) R H:=⟨i,rfl,q⟩
theorem jnh {p:Addr}{xs:List V}{lo hi:Option Int} (h:H p=some (.lst xs)) (q:∀ l H',H l=none→H' l=some (.lst (cutV xs lo hi))→Ext H H'→Q (.ref l) H'):rSlU K (.ref p) lo hi H Q:=.inr ⟨p,xs,rfl,SqL.of h,fun l n=>q l _ n j07 (j0j n)⟩
theorem r_zip2 {ta:TA}{R:It→Hp→Prop} (q:ta σ H fun vs H1=>∃ p q xs ys c d,vs=[.ref p,.ref q]∧SqE K H1 p xs c∧SqE K H1 q ys d∧R (Itz2 K c d p q) H1):iZip2 K ta σ H R:=q
theorem r_all {p:Addr}{bs:List Bool} (h:H p=some (.lst (bs.map V.bl))) (q:Q (.bl (bs.all id)) H):rAll K [.ref p] H Q:=⟨p,bs,rfl,SqL.of h,q⟩
theorem r_eqUI {i j:Int} (q:Q (.bl (decide (i=j))) H):rEqU (.int i) (.int j) H Q:=.inl (r_eqI q)
theorem r_eqUB {i j:Bool} (q:Q (.bl (decide (i=j))) H):rEqU (.bl i) (.bl j) H Q:=.inl (r_eqB q)
theorem jj3 {i j:Str} (q:Q (.bl (decide (i=j))) H):rEqU (.str i) (.str j) H Q:=.inl (r_eqS q)
theorem r_eqD {x y:V}{a b:L2.D} (ha:Rep H a x) (hb:Rep H b y) (oa:a.eqOk=true) (ob:b.eqOk=true) (hd:a.depth≤20) (q:Q (.bl (eqD a b)) H):rEqU x y H Q:=.inr ⟨a,b,ha,hb,oa,ob,hd,q⟩
theorem r_inT {p:Addr}{x:V}{xs:List V} (h:H p=some (.tup xs)) (fx:j5k x=true) (fl:xs.all j5k=true) (q:Q (.bl (inV x xs)) H):rInU K false x (.ref p) H Q:=⟨p,xs,rfl,.inr (SqT.of h),fx,fl,q⟩
theorem j37 {p:Addr}{x:V}{xs:List V} (h:H p=some (.tup xs)) (fx:j5k x=true) (fl:xs.all j5k=true) (q:Q (.bl (!inV x xs)) H):rInU K true x (.ref p) H Q:=⟨p,xs,rfl,.inr (SqT.of h),fx,fl,q⟩
theorem j6u {te:TE}{Y:V→Hp→Prop}{N:Hp→Prop} (q:te σ H Y):j8y [] σ H fun b H3=>if b=true then te σ H3 Y else N H3:=by
 show (if true=true then te σ H Y else N H)
 rw[if_pos rfl]
 exact q
theorem jfv {t:TT}{R:Bool→Hp→Prop} (q:t σ H fun b H1=>if b=true then R true H1 else R false H1):j8y [t] σ H R:=q
end
theorem jfw {ns:List Int}{k:Int} (h0:0≤k) (h1:k < ns.length):atI (ns.map V.int) k=some (.int (ns.getD k.toNat 0)):=by
 refine jit h0 ?_
 rw[List.getElem?_map,List.getElem?_eq_getElem (by omega),List.getD_eq_getElem?_getD,List.getElem?_eq_getElem (by omega)]
 rfl
section
variable {X:Cx}
def IsMin (m:Int) (ns:List Int):Prop:=m∈ns∧∀ x∈ns,m≤x
theorem IsMin.uniq {a b:Int}{ns:List Int} (h1:IsMin a ns) (h2:IsMin b ns):a=b:=by
 have:=h1.2 b h2.1
 have:=h2.2 a h1.1
 omega
def mn:List Int→Int
 | []=>0
 | [x]=>x
 | x :: y :: r=>min x (mn (y :: r))
end
structure FunD (K:PySem.W.Frag) (x qual:Str) (st:Stmt) (f:Addr) (fd:FuncData) (ds:List Value):Prop where
 ex:∃ (oc:Value) (od:Option Addr) (T:Addr) (kV doc pm:Value) (an:Option Addr) (cdv ct:Value) (osl:Array (Option Value)) (tc:Value) (td:Option Addr) (tn:Nat) (tsl:Array (Option Value)),
  fd=PySem.W.fnOf x qual (j0a st) (j09 st) (j01 st) (.ref T) kV doc pm an cdv ct∧K.lookup f=some ⟨oc,od,.func fd,osl⟩∧PySem.W.codeIn K cdv qual=true∧K.lookup T=some ⟨tc,td,.seq ds.toArray tn,tsl⟩
 kp:PySem.W.keepIn K (.ref f)=true
section
variable {P:Program}{w:World}{K:PySem.W.Frag}{mg:Str→Option Value}{base:Heap}{ds:List Value}
theorem FunD.binds {x qual:Str}{st:Stmt}{f:Addr}{fd:FuncData}{ps:List Str}{es:List Value} (F:FunD K x qual st f fd ds)
  (h:∀ (T:Addr) (kV doc pm:Value) (an:Option Addr) (cdv ct:Value) (us:List Value),(us++es).length=ps.length→∃ k:Option (Array Value)→Sem (List (Str × Value)),bindArgs (PySem.W.fnOf x qual (j0a st) (j09 st) (j01 st) (.ref T) kV doc pm an cdv ct) ⟨us,[]⟩=(seqItems? (.ref T) >>= k)∧k (some ds.toArray)=pure (ps.zip (us++es))):Binds K fd ps es:=by
 obtain⟨oc,od,T,kV,doc,pm,an,cdv,ct,osl,tc,td,tn,tsl,rfl,lk,hcd,hT⟩:=F.ex
 intro s us KX hl
 obtain⟨k,h1,h2⟩:=h T kV doc pm an cdv ct us hl
 exact PySem.W.binds_K (T:=T) KX rfl hT rfl h1 h2
end
structure IsC (K:PySem.W.Frag) (C B:Addr):Prop where
 ha:PySem.W.findIn K (.ref C) "__class__"=some (some (.builtin "object.__class__"))
 hn:PySem.W.specialIn K (.builtin "object.__class__") "__get__"=some (some (.builtin "getset_descriptor.__get__"))
 htk:PySem.W.takesIn K (.builtin "object.__class__")=some true
 hm:PySem.W.mroIn K C (.type "object")=some true
 ki:PySem.W.kitOne K (.ref C) (.ref B)=some true
theorem jj4 {α:Type}{src:α→V}{l:List α}{i:Nat}{x:V} (h:(l.map src)[i]?=some x):∃ y,l[i]?=some y∧x=src y:=by
 rw[List.getElem?_map] at h
 cases e:l[i]? with
 | none=>rw[e] at h;cases h
 | some n=>rw[e] at h;cases h;exact⟨n,rfl,rfl⟩
section
variable {K:PySem.W.Frag}{α β γ:Type}{te:TE}{acc:Addr}{fr:St}{H1:Hp}{R:Hp→Prop}
theorem jd3 (src:α→V) (mk:β→V) (f:α→β) {a:Addr}{u:Option V}{l:List α} (hx:SqT K H1 a (l.map src)) (hz:l.length≤1000000) (hn:H1 acc=none)
  (turn:∀ (i:Nat) x H (Y:V→Hp→Prop),l[i]?=some x→Ext H1 H→(∀ H',Ext H H'→Y (mk (f x)) H')→te (some (src x) :: fr) H Y)
  (fin:∀ H,Ext H1 H→H acc=some (.lst ((l.map f).map mk))→R H):jca (Itt K a) (jcf 0) [] te acc (u :: fr) H1 R:=by
 refine j1v hx (by rw[List.length_map];exact hz) hn (fun j ys _=>ys=((l.take j).map f).map mk) (by simp) (fun _ _ _ _ _ h=>h) (fun j ys H _ h=>by rw[h];simp;omega) ?_ ?_
 ·intro j y ys H hy e h Y N hY hN
  obtain⟨y,ey,rfl⟩:=jj4 hy
  refine j6u (turn j y H Y ey e fun H' e'=>hY _ _ e' ?_)
  rw[List.take_add_one,ey,h]
  simp
 ·intro ys H e ha h
  refine fin H e ?_
  rw[ha,h,List.length_map,List.take_of_length_le (Nat.le_refl _)]
end
section
variable {X:Cx}
open Classical in
theorem op_neD {k:Nat} (hr:Room k X.A):OpR X (compareOp .NotEq) (rEqD true):=by
 intro pins s σ H x y v u Q I rx ry h
 obtain⟨a,b,ha,hb,oa,ob,hd,q⟩:=h
 obtain⟨as,r1⟩:=j36 I a ha rx oa
 obtain⟨bs,r2⟩:=j36 I b hb ry ob
 have h1:=D.pyDepth a
 exact SeqAt.compareNe_reads r1 r2 (D.canLay a oa) (D.canLay b ob) (by have:=hr.units;omega) ⟨.bl (!eqD a b),H,I,rfl,q⟩
theorem oNe {k:Nat} (hr:Room k X.A):OpR X (compareOp .NotEq) rNeU:=jlo.or (op_neD hr)
end
section
variable {K:PySem.W.Frag}{σ:St}{H:Hp}{Q:VK}
theorem r_neUI {i j:Int} (q:Q (.bl (!decide (i=j))) H):rNeU (.int i) (.int j) H Q:=.inl (r_neI q)
theorem jfx {i j:Str} (q:Q (.bl (!decide (i=j))) H):rNeU (.str i) (.str j) H Q:=.inl ⟨rfl,by
 rw[show decide (V.str i=V.str j)=decide (i=j) from decide_eq_decide.mpr ⟨fun z=>by cases z;rfl,fun z=>by rw[z]⟩];exact q⟩
theorem r_neD {x y:V}{a b:L2.D} (ha:Rep H a x) (hb:Rep H b y) (oa:a.eqOk=true) (ob:b.eqOk=true) (hd:a.depth≤20) (q:Q (.bl (!eqD a b)) H):rNeU x y H Q:=.inr ⟨a,b,ha,hb,oa,ob,hd,q⟩
end
section
variable {X:Cx}{pins:List (Addr × Obj)}{σ:St}{H:Hp}{s:Shared}{h':Heap}{n:Nat}
open Classical in
end
def XP (X:Cx) (pins:List (Addr × Obj)) (σ:St) (E:XK) (e:Value) (s:Shared):Prop :=
 ∃ n H a C dx,e=.ref a∧X.s₀.heap.objs.size≤n∧(∀ p∈X.pn++pins,p.1 < n)∧Inv X pins σ H s∧Err n H s.heap a C dx .none∧E C dx H
section
variable {X:Cx}{k:Nat}{f C:Addr}{fd:FuncData}{ps:List Str}{sp:Sp}{dvs:List V}{ds:List Value}{E:XK}
theorem XP.of {pins:List (Addr × Obj)}{σ:St}{H:Hp}{s s':Shared}{e:Value} (I:Inv X pins σ H s) (h:CXE X.prog X.w X.stack H s E e s'):XP X pins σ E e s':=by
 obtain⟨a,C,dx,H',rfl,ho,hg,u,hok,er,q⟩:=h
 exact⟨_,H',a,C,dx,rfl,I.sz,fun p hp=>Heap.lt_size (I.pin p hp).1,I.call' (ch:=[]) ho u hok hg fun b z=>absurd z (by simp),er,q⟩
end
structure Catch (K:PySem.W.Frag) (C L:Addr):Prop where
 ex:∃ bm bl,ErrC K C bm∧ErrC K L bl∧(Value.ref C :: bm).contains (.ref L)=true
section
variable {X:Cx}{pins:List (Addr × Obj)}{σ:St}{H:Hp}{s:Shared}
theorem Inv.gone {h':Heap}{i t':Nat}{x:Str}{v:Option Value}{m:Str→Option Value} (I:Inv X pins σ H s) (hN:X.N.Nodup) (hi:X.N[i]?=some x) (hm:s.heap.Ns X.env.locals m) (hn:h'.Ns X.env.locals (fun y=>if y=x then v else m y)) (hs:Heap.SameBut X.env.locals s.heap h'):Inv X pins (σ.set i none) H { s with heap:=h',toks:=t' }:=by
 obtain⟨m2,hn2,hl⟩:=id I.loc
 have em:∀ y,m2 y=m y:=fun y=>by
  obtain⟨o1,es1,ep1,g1,d1,_,f1⟩:=id hn2
  obtain⟨o2,es2,ep2,g2,d2,_,f2⟩:=id hm
  rw[g1] at g2;cases g2
  rw[d1] at d2;cases d2
  exact (f1 y).symm.trans (f2 y)
 obtain⟨oL,_,_,hoL,_⟩:=id hm
 have low:∀ b o,X.s₀.heap.get? b=some o→b≠X.env.locals:=fun b o e=>Nat.ne_of_lt (Nat.lt_of_lt_of_le (Heap.lt_size e) I.ok.above)
 refine⟨I.ok,I.os,I.bare,⟨fun b o e z hb hx=>(hs.2 b (low b o e)).trans (I.base.keep b o e z hb hx),fun b o e z hb hx=>?_,I.base.free,fun b o e hx=>?_,I.base.tups,I.base.frzs,I.base.tbls⟩,⟨_,hn,fun j y v' e1 e2 e3=>?_⟩,fun y c e=>?_,I.free,I.freeC,fun p hp=>?_,fun b o e=>?_,by rw[List.length_set];exact I.len⟩
 ·obtain⟨sl,e1⟩:=I.base.slot b o e z hb hx
  exact⟨sl,(hs.2 b (low b o e)).trans e1⟩
 ·obtain⟨o',e1⟩:=I.base.there b o e hx
  exact⟨o',(hs.2 b (low b o e)).trans e1⟩
 ·have hj:j≠i:=fun q=>by
   subst q
   rw[List.getElem?_set_self (by rw[I.len];exact (List.getElem?_eq_some_iff.mp e1).1)] at e2
   cases e2
  rw[List.getElem?_set_ne (Ne.symm hj)] at e2
  obtain⟨u',r',q⟩:=hl j y v' e1 e2 e3
  refine⟨u',r',?_⟩
  rcases q with⟨k,e⟩ | ⟨k,c,e,z⟩
  ·refine .inl ⟨k,?_⟩
   have:y≠x:=fun e=>hj (j6d hN e1 (e ▸ hi))
   show (if y=x then v else m y)=some u'
   rw[if_neg this,← em]
   exact e
  ·exact .inr ⟨k,c,e,z.sameBut hs (I.cne y c e)⟩
 ·obtain⟨w',z⟩:=I.cell y c e
  exact⟨w',z.sameBut hs (I.cne y c e)⟩
 ·obtain⟨e,z,ne,nf,d⟩:=I.pin p hp
  exact⟨(hs.2 p.1 ne).trans e,z,ne,nf,d⟩
 ·refine (I.hok b o e).stay (fun c w' hc q=>(hs.2 c ?_).trans q) (fun _ q=>q) fun _ _ q=>q
  rintro rfl
  rcases hc with rfl | hc
  ·rw[I.free] at e;cases e
  ·rw[I.free] at hc;cases hc
end
def Ends.gone (D:Ends) (i:Nat):Ends:={ nx:=fun σ H=>D.nx (σ.set i none) H,rt:=D.rt,bk:=fun σ H=>D.bk (σ.set i none) H,ct:=fun σ H=>D.ct (σ.set i none) H }
open PySem.Builtin PySem.Builtin.ObjectAttr
structure ErrI (K:PySem.W.Frag) (C:Addr):Prop where
 at_:∃ nm q N bs bm sn sub ab col dd k0 k1 k2 k3 k5 newId,K.lookup C=some (excClassObj nm q C N bs bm true sn sub ab col dd k0 k1 k2 k3 k5 newId)∧bm.contains (.type "BaseException")=true
 ga:PySem.W.findIn K (.ref C) "__getattribute__"=some (some (.builtin "BaseException.__getattribute__"))
 gh:PySem.W.findIn K (.ref C) "__getattr__"=some none
 ca:PySem.W.findIn K (.ref C) "__class__"=some (some (.builtin "object.__class__"))
 cn:PySem.W.specialIn K (.builtin "object.__class__") "__get__"=some (some (.builtin "getset_descriptor.__get__"))
 ct:PySem.W.takesIn K (.builtin "object.__class__")=some true
 cm:PySem.W.mroIn K C (.type "object")=some true
def HasErr (H:Hp) (a C dx:Addr):Prop:=H a=some (errH a (.ref C) (some dx))∨H a=some (errN a C (some dx))
theorem HasErr.mono {H H':Hp}{a C dx:Addr} (e:Ext H H') (h:HasErr H a C dx):HasErr H' a C dx:=h.imp (fun z=>e _ _ z) (fun z=>e _ _ z)
def bmV:List Value:=[.type "ValueError",.type "Exception",.type "BaseException",.type "object"]
structure ErrK (K:PySem.W.Frag) (C:Addr) (bm:List Value) (f:Addr):Prop where
 lk:∃ nm q N bs sn sub ab col dd k0 k1 k2 k3 k5,K.lookup C=some (excClassObj nm q C N bs bm true sn sub ab col dd k0 k1 k2 k3 k5 "ValueError.__new__")
 init:PySem.W.findIn K (.ref C) "__init__"=some (some (.ref f))
 fn:PySem.W.isFn K (.ref f)=true
 kp:PySem.W.keepIn K (.ref C)=true
 set:PySem.W.findIn K (.ref C) "__setattr__"=some (some (.builtin "object.__setattr__"))
 row:PySem.W.findIn K (.ref C) "row"=some none
 ga:PySem.W.findIn K (.ref C) "__getattribute__"=some (some (.builtin "BaseException.__getattribute__"))
 gh:PySem.W.findIn K (.ref C) "__getattr__"=some none
 ca:PySem.W.findIn K (.ref C) "__class__"=some (some (.builtin "object.__class__"))
 cn:PySem.W.specialIn K (.builtin "object.__class__") "__get__"=some (some (.builtin "getset_descriptor.__get__"))
 ct:PySem.W.takesIn K (.builtin "object.__class__")=some true
 cm:PySem.W.mroIn K C (.type "object")=some true
def Tl (bm:List Value):Prop:=bm=bmV∨∃ L,bm=.ref L :: bmV
theorem Tl.has {bm:List Value}{T:String} (h:Tl bm) (k:bmV.contains (.type T)=true):bm.contains (.type T)=true:=by
 rcases h with rfl | ⟨L,rfl⟩
 ·exact k
 ·rw[List.contains_cons,k,Bool.or_true]
theorem Tl.no {bm:List Value}{T:String} (h:Tl bm) (k:bmV.contains (.type T)=false):bm.contains (.type T)=false:=by
 rcases h with rfl | ⟨L,rfl⟩
 ·exact k
 ·rw[List.contains_cons,k,Bool.or_false];rfl
section
variable {K:PySem.W.Frag}{C f:Addr}{bm:List Value}
theorem ErrK.em (e:ErrK K C bm f) (h:Tl bm):ErrM K C f bm bmV "ValueError" "ValueError.__new__" "ValueError.__init__":=by
 obtain⟨nm,q,N,bs,sn,sub,ab,col,dd,k0,k1,k2,k3,k5,lk⟩:=e.lk
 exact⟨⟨nm,q,N,bs,_,sn,sub,ab,col,dd,k0,k1,k2,k3,k5,lk⟩,PySem.F.excBase_ValueError,h.has (by decide +kernel),h.no (by decide +kernel),h.no (by decide +kernel),h.has (by decide +kernel),e.init,e.fn,e.kp⟩
theorem ErrK.es (e:ErrK K C bm f) (h:Tl bm):ErrS K C "row" bm:=by
 obtain⟨nm,q,N,bs,sn,sub,ab,col,dd,k0,k1,k2,k3,k5,lk⟩:=e.lk
 refine⟨⟨nm,q,N,bs,sn,sub,ab,col,dd,k0,k1,k2,k3,k5,_,lk⟩,fun x=>?_,h.has (by decide +kernel),e.set,e.row⟩
 rcases h with rfl | ⟨L,rfl⟩
 ·exact PySem.F.store_ValueError.passes _
 ·rw[refuseLoop_ref];exact PySem.F.store_ValueError.passes _
theorem ErrK.ec (e:ErrK K C bm f) (h:Tl bm):ErrC K C bm:=by
 obtain⟨nm,q,N,bs,sn,sub,ab,col,dd,k0,k1,k2,k3,k5,lk⟩:=e.lk
 exact⟨⟨nm,q,N,bs,_,sn,sub,ab,col,dd,k0,k1,k2,k3,k5,_,lk⟩,h.has (by decide +kernel)⟩
theorem ErrK.ei (e:ErrK K C bm f) (h:Tl bm):ErrI K C:=by
 obtain⟨nm,q,N,bs,sn,sub,ab,col,dd,k0,k1,k2,k3,k5,lk⟩:=e.lk
 exact⟨⟨nm,q,N,bs,bm,sn,sub,ab,col,dd,k0,k1,k2,k3,k5,_,lk,h.has (by decide +kernel)⟩,e.ga,e.gh,e.ca,e.cn,e.ct,e.cm⟩
end
theorem RepL.many {H:Hp}{d:D}{x:V} (h:Rep H d x):∀ k:Nat,RepL H (List.replicate k d) (List.replicate k x)
 | 0=>RepL.nil
 | k+1=>by rw[List.replicate_succ,List.replicate_succ];exact RepL.cons h (RepL.many h k)
def IsRv (h:Heap) (d:Addr) (l:Value) (i:Int):Prop:=h.get? d=some { cls:=.type "reversed",data:=.fields #[l,rawInt i] }
theorem IsRv.ty {h:Heap}{d:Addr}{l:Value}{i:Int}{s:Shared} (x:IsRv s.heap d l i):s.TypeIs (.ref d) "reversed":=⟨_,x,rfl⟩
theorem jj5 {h h':Heap}{l:Addr}{xs:Array Value} (x:IsTup h l xs) (e:∀ o,h.get? l=some o→h'.get? l=some o):IsTup h' l xs:=let ⟨o,ho,r⟩:=x;⟨o,e _ ho,r⟩
theorem jfy {its:List Value}{acc:Array Value} (h:ItemsOf (fun i v=>its.toArray[its.toArray.size-1-i]?=some v) acc its.toArray.size):acc.toList=its.reverse:=by
 obtain⟨h1,h2⟩:=h
 have h1:acc.size=its.length:=by rw[h1];simp
 refine List.ext_getElem? fun i=>?_
 rw[Array.getElem?_toList]
 by_cases hi:i < its.length
 ·have ha:acc[i]?=some (acc[i]'(by omega)):=Array.getElem?_eq_getElem (by omega)
  have:=h2 i _ ha
  rw[ha,List.getElem?_reverse hi]
  simpa using this.symm
 ·rw[Array.getElem?_eq_none (by omega),List.getElem?_eq_none (by simp;omega)]
theorem iteTc {c:Bool}{A B:Prop} (h:c=true) (q:A):if c=true then A else B:=by rw[h];exact iteT q
theorem iteFc {c:Bool}{A B:Prop} (h:c=false) (q:B):if c=true then A else B:=by rw[h];exact iteF q
structure RoomW (k:Nat) (A:Around):Prop where
 dp:A.depth+3 * k+5 < recursionLimit
 un:A.units+16 * k+200 < cLine
theorem RoomW.mono {j k:Nat}{A:Around} (r:RoomW k A) (h:j≤k):RoomW j A:=⟨by have:=r.dp;omega,by have:=r.un;omega⟩
theorem RoomW.deeper {k:Nat}{A:Around} (r:RoomW (k+1) A) (env:Env):RoomW k (A.deeper env) :=
 ⟨by have:=r.dp;show A.depth+1+3 * k+5 < _;omega,by have:=r.un;show A.units+3+16 * k+200 < _;omega⟩
theorem Room.w {k:Nat}{A:Around} (r:Room k A):RoomW k A:=⟨r.dp,r.un⟩
theorem Room.ex {k:Nat}{A:Around} (r:Room k A) (v:Option Value):RoomW k (A.mark v):=⟨r.dp,r.un⟩
theorem RoomW.depth {k:Nat}{A:Around} (r:RoomW k A):A.depth < recursionLimit:=by have:=r.dp;omega
structure FnOkW (P:Program) (w:World) (K:PySem.W.Frag) (mg:Str→Option Value) (base:Heap) (CX:CXT) (k:Nat) (f:Addr) (fd:FuncData) (ps:List Str) (sp:Sp):Prop where
 len:∀ vs H Q E,sp vs H Q E→vs.length=ps.length
 run:∀ (A:Around) (outer:List Env) (s:Shared) (H:Hp) (args:Args) (us:List Value) (vs:List V) (Q:VK) (E:XK),RoomW k A→Env0 P w K mg base A outer s H→BindsTo s fd args (ps.zip us)→Vals vs us→sp vs H Q E →
  codeAny (model P w) A (.call (.ref f) args) (CR CX outer P w H s Q E) s
def mulS (x:Str) (n:Nat):Str:=⟨((List.replicate n x.cps.toList).flatten).toArray⟩
theorem foldA (its:List Nat):∀ (k:Nat) (acc:List Nat),List.foldl (fun x1 x2=>x1++x2) acc.toArray (List.replicate k its.toArray)=(acc++(List.replicate k its).flatten).toArray
 | 0,acc=>by simp
 | k+1,acc=>by
  rw[List.replicate_succ,List.foldl_cons,show acc.toArray++its.toArray=(acc++its).toArray by simp,foldA its k (acc++its),List.replicate_succ,List.flatten_cons,List.append_assoc]
theorem jj6 (x:Str) (n:Nat):Txt.mul x n=mulS x n:=by
 unfold Txt.mul mulS
 by_cases h1:(n:Int) < 1
 ·have:n=0:=by omega
  subst this
  rfl
 ·rw[if_neg h1]
  by_cases h2:((n:Int) == 1 || x.length == 0)=true
  ·rw[if_pos h2]
   rw[Bool.or_eq_true,beq_iff_eq,beq_iff_eq] at h2
   rcases h2 with h2 | h2
   ·have:n=1:=by omega
    subst this
    simp
   ·have e:x.cps.toList=[]:=by
     have:x.cps.toList.length=0:=h2
     exact List.length_eq_zero_iff.mp this
    have e2:x.cps=#[]:=by rw[← Array.toArray_toList (xs:=x.cps),e]
    rw[e]
    have:(List.replicate n ([]:List Nat)).flatten=[]:=by simp
    rw[this,← e2]
  ·rw[if_neg h2,Int.toNat_natCast]
   have:=foldA x.cps.toList n []
   simp only[Array.toArray_toList,List.nil_append] at this
   rw[← this]
section
variable {X:Cx}
def rAddS:R2:=fun x y H Q=>∃ i j,x=.str i∧y=.str j∧i.length+j.length≤sizeLine∧Q (.str (i++j)) H
def jnn (K:PySem.W.Frag):R2:=fun x y H Q=>jlt K x y H Q∨rAddS x y H Q
theorem j5o:OpR X (binaryOp .Add) (jnn X.K):=oAddV.or j9p
def rMulS:R2:=fun x y H Q=>∃ (i:Str) (k:Int),x=.str i∧y=.int k∧0≤k∧k≤1000∧i.length≤1000∧Q (.str (mulS i k.toNat)) H
theorem jj7:OpR X (binaryOp .Mult) rMulS:=by
 intro pins s σ H x y v u Q I rx ry h
 obtain⟨i,k,rfl,rfl,k0,k1,hl,q⟩:=h
 obtain⟨t,rfl⟩:=rx
 obtain⟨t',rfl⟩:=ry
 obtain⟨n,rfl⟩:∃ n:Nat,k=n:=⟨k.toNat,by omega⟩
 rw[Int.toNat_natCast] at q
 refine SB.mul ⟨?_,fun h1 _=>?_,fun _ _=>?_⟩ fun t2 tk=>⟨.str (mulS i n),H,I.tok _,⟨t2,by rw[jj6]⟩,q⟩
 ·rw[Bool.or_eq_false_iff,decide_eq_false_iff_not,decide_eq_false_iff_not];omega
 ·have h3:(i.length:Int) * n≤1000000:=by
   have:i.length * n≤1000 * 1000:=Nat.mul_le_mul hl (by omega)
   have:=Int.ofNat_le.mpr this
   rw[Int.natCast_mul] at this
   omega
  have h4:(i.length:Int)≤(2 ^ 63-1) / n:=Int.le_ediv_of_mul_le (by omega) (by omega)
  omega
 ·rw[Int.toNat_natCast]
  unfold Builtin.Str.tooLong
  have:i.length * n≤1000 * 1000:=Nat.mul_le_mul hl (by omega)
  rw[decide_eq_false_iff_not,sizeLine_eq]
  omega
def rMulW:R2:=fun x y H Q=>rI CMulB (fun i j=>.int (i * j)) x y H Q∨rMulS x y H Q
theorem jhl:OpR X (binaryOp .Mult) rMulW:=jid.or jj7
def rLeS:R2:=fun x y H Q=>∃ i j,x=.str i∧y=.str j∧Q (.bl (!decide (j.cps.toList < i.cps.toList))) H
theorem op_leS:OpR X (compareOp .LtE) rLeS:=by
 intro pins s σ H x y v u Q I rx ry h
 obtain⟨i,j,rfl,rfl,q⟩:=h
 obtain⟨t,rfl⟩:=rx
 obtain⟨t',rfl⟩:=ry
 exact PySem.P.le_str ⟨.bl _,H,I,rfl,q⟩
def rLeW:R2:=fun x y H Q=>rI0 (fun i j=>.bl (decide (i≤j))) x y H Q∨rLeS x y H Q
theorem oLeW:OpR X (compareOp .LtE) rLeW:=op_le.or op_leS
def jj8 (K:PySem.W.Frag):List V→Hp→VK→Prop:=fun xs H Q=>rLen K xs H Q∨∃ z:Str,xs=[.str z]∧z.length≤sizeLine∧Q (.int z.length) H
theorem j2m:CallR X (.builtin "len") (jj8 X.K):=cLen.or j6l
end
def AscS (x:Str):Prop:=x.cps.all (· < 128)=true
def Its (x:Str):It:=⟨fun i _=>i < x.cps.size,fun i H v H'=>H'=H∧∃ c,x.cps[i]?=some c∧v=.str ⟨#[c]⟩,fun i _=>x.cps.size≤i⟩
theorem jfz {P:Program}{w:World}{K:PySem.W.Frag}{tg:Expr} (x:Str) (t:Tok) (it:Addr):Turn P w K tg (Its x) [it] it (fun i h=>h.IsStrIter it "str_ascii_iterator" x t i) where
 mem:=List.mem_singleton.mpr rfl
 obj:=fun i h st b hb=>by
  cases List.mem_singleton.mp hb
  obtain⟨o,e,c,d⟩:=st
  exact⟨o,e,fun v z=>by rw[d] at z;cases z⟩
 keep:=fun i h h' st k=>let ⟨o,e,r⟩:=st;⟨o,k it (List.mem_singleton.mpr rfl) o e,r⟩
 item:=by
  intro X hP hw hK hc i pins s σ H E I hf st hg
  subst hP hw hK
  have hx:x.cps[i]?=some (x.cps[i]'hg):=Array.getElem?_eq_getElem hg
  obtain⟨f0,f1,f2,f3,f4,f5⟩:=hf it (List.mem_singleton.mpr rfl)
  refine wpAny_pyNext_ascii_item st hx fun h' st' sb=>?_
  have I1:Inv X pins σ H { s with heap:=h',toks:=s.toks+1 }:=I.turned (t':=s.toks+1) (fun b o hb e=>(sb.2 b hb).trans e) f0 f1 f3 f4 f5
  obtain⟨o,e,c,d⟩:=id st'
  exact⟨_,rfl,jf6 (s:={ s with heap:=h',toks:=s.toks+1 }) e c d (by decide) ⟨.str ⟨#[x.cps[i]'hg]⟩,H,I1,⟨_,rfl⟩,⟨rfl,_,hx,rfl⟩,st',fun b hb=>(hf b hb).1⟩⟩
 done:=by
  intro X hP hw hK hc i pins s σ H E I hf st hg
  subst hP hw hK
  obtain⟨f0,f1,f2,f3,f4,f5⟩:=hf it (List.mem_singleton.mpr rfl)
  exact wpAny_pyNext_ascii_end (I.ok.hd hc) st (Array.getElem?_eq_none hg) fun h' eb=>⟨rfl,I.turned (t':=s.toks) (fun b o hb e=>eb b o hb e) f0 f1 f3 f4 f5⟩
 self:=fun _ _ _ _ _ st h=>wpAny_pyIter_striter_ascii st h
section
variable {X:Cx}{tg:Expr}
def iStr (tl:TE):TI:=fun σ H R=>tl σ H fun x H1=>∃ z,x=.str z∧AscS z∧R (Its z) H1
theorem jj9 {l:Expr}{tl:TE} (hl:PE X l tl):PI X tg l (iStr tl):=by
 intro pins s σ H R I h
 refine thn (hl pins s σ H _ I h) fun v s1 ⟨x,H1,I1,r1,q1⟩=>?_
 obtain⟨z,e,ha,q⟩:=q1
 subst e
 obtain⟨t,rfl⟩:=r1
 refine wpAny_pyIter_ascii ha ?_
 refine⟨s1.heap.objs.size,[s1.heap.objs.size],_,_,H1,rfl,I1.kept (t':=s1.toks) fun b o e=>Heap.get?_push_of_some _ e,jfz z t _,⟨_,Heap.get?_push_size _ rfl,rfl,rfl⟩,fun b hb=>?_,q⟩
 cases List.mem_singleton.mp hb
 exact I1.fpOk (Nat.le_refl _) (I1.hok.fresh (Nat.le_refl _))
end
section
variable {K:PySem.W.Frag}{ts:List TT}{te:TE}{acc:Addr}{fr:St}{H1:Hp}{R:Hp→Prop}
theorem jg0 {β:Type} (mk:β→V) (f:Nat→β) {x:Str}{u:Option V} (hz:x.cps.size≤1000000) (hn:H1 acc=none)
  (turn:∀ (i c:Nat) H (Y:V→Hp→Prop),x.cps[i]?=some c→Ext H1 H→(∀ H',Ext H H'→Y (mk (f c)) H')→te (some (.str ⟨#[c]⟩) :: fr) H Y)
  (fin:∀ H,Ext H1 H→H acc=some (.lst ((x.cps.toList.map f).map mk))→R H):jca (Its x) (jcf 0) [] te acc (u :: fr) H1 R:=by
 refine j4n x.cps.size hz hn (fun σ=>∃ u,σ=u :: fr) (fun j ys _=>ys=((x.cps.toList.take j).map f).map mk) ⟨u,rfl⟩ (by simp) (fun _ _ _ _ _ h=>h) (fun i H hi e=>hi) (fun H e=>Nat.le_refl _) (fun i ys H _ h=>by rw[h];simp;omega) ?_ ?_
 ·rintro i σ ys H v H' G hi e ⟨u,rfl⟩ pv ⟨rfl,c,hc,rfl⟩ hG
  refine hG _ _ ⟨_,rfl⟩ ?_
  intro Y N hY hN
  refine j6u (turn i c _ _ hc e fun H2 e2=>hY _ H2 e2 ?_)
  have hc':x.cps.toList[i]?=some c:=by rw[Array.getElem?_toList];exact hc
  rw[pv,List.take_add_one,hc']
  simp
 ·intro ys H e ha pv
  subst pv
  refine fin H e ?_
  rw[ha,List.take_of_length_le (by rw[Array.length_toList];exact Nat.le_refl _)]
end
def putS (l:List Str) (x:Str):List Str:=if x∈l then l else l++[x]
def metS (ss:List Str):List Str:=ss.foldl putS []
theorem j23 (ss:List Str) (x:Str):metS (ss++[x])=putS (metS ss) x:=by unfold metS;rw[List.foldl_append];rfl
theorem j6v (l:List Str) (x:Str):(putS l x).length=if x∈l then l.length else l.length+1:=by unfold putS;split <;> simp
theorem jab (l:List Str) (x y:Str):y∈putS l x↔y∈l∨y=x:=by
 unfold putS
 split
 ·rename_i h
  exact⟨.inl,fun z=>z.elim id (fun e=>by rw[e];exact h)⟩
 ·simp
theorem jac {P:List Str→Prop} (h0:P []) (h1:∀ l x,P l→P (l++[x])) (l:List Str):P l:=by
 have k:∀ m:List Str,P m.reverse:=fun m=>by
  induction m with
  | nil=>exact h0
  | cons a r ih=>rw[List.reverse_cons];exact h1 _ _ ih
 have:=k l.reverse
 rwa [List.reverse_reverse] at this
theorem jea (ss:List Str):(metS ss).length≤ss.length:=by
 induction ss using jac with
 | h0=>exact Nat.le_refl _
 | h1 l x ih =>
  rw[j23,j6v,List.length_append,List.length_singleton]
  split <;> omega
theorem jg1 (ss:List Str) (y:Str):y∈metS ss↔y∈ss:=by
 induction ss using jac with
 | h0=>exact Iff.rfl
 | h1 l x ih=>rw[j23,jab,ih,List.mem_append,List.mem_singleton]
theorem j5p {ss:List Str} (h:ss.Nodup):(metS ss).length=ss.length:=by
 induction ss using jac with
 | h0=>rfl
 | h1 l x ih =>
  obtain⟨h1,h2,h3⟩:=List.nodup_append.mp h
  have nx:x∉metS l:=fun z=>h3 x ((jg1 l x).mp z) x (List.mem_singleton.mpr rfl) rfl
  rw[j23,j6v,if_neg nx,ih h1,List.length_append,List.length_singleton]
section
variable {w:World}{prog:Program}{A:Around}
variable {R:Result→Shared→Prop}{I:Addr}{fp wr:List Addr}{G:Array GenState→Array GenState→Prop}{n:Nat}{P:Nat→Value→Prop}{St:Nat→Shared→Prop}
theorem jd4 (W:WalksS prog w A.in1 I fp wr G n P St) (S:Addr) (hSf:S∉fp) (ss:List Str) (hn:ss.length=n) (hval:∀ i v,P i v→∃ x t,ss[i]?=some x∧v=.str x t) (hb:n+1 < scanBound) :
  ∀ (k i:Nat) (s:Shared),n-i=k→i≤n→St i s→s.heap.SetOf (PySem.strKind prog w) S (fun x=>decide (x∈metS (ss.take i))) (metS (ss.take i)).length →
   (∀ s',Moved (S :: wr) G s s'→s'.heap.SetOf (PySem.strKind prog w) S (fun x=>decide (x∈metS ss)) (metS ss).length→R (.ok (.ret .none)) s') →
   codeAny (model prog w) A (Code.builtin "set.update.loop" ⟨[.ref S,.ref I],[]⟩) R s:=by
 skip;have hSw:S∉wr:=fun h=>hSf (W.sub _ h)
 have sub2:∀ b∈wr,b∈S :: wr:=fun b hb=>List.mem_cons_of_mem _ hb
 intro k
 induction k with
 | zero =>
  intro i s hk hi hst hS hR
  obtain rfl:i=n:=by omega
  refine codeAny_builtin PyProof.Rows.F.entry_set_update_loop ?_;rw[Around.under_plainId PyProof.Rows.F.plain_set_update_loop _]
  show wpAny _ A.in1 (pyNext (.ref I) >>= _) _ _ s;refine wpAny_bind (W.done s _ _ hst fun s' hm=>?_)
  rw[← hn,List.take_length] at hS
  refine wpAny_pure (hR s' (hm.mono sub2) ?_)
  skip;obtain⟨o,es,ep,t,ho,rest⟩:=hS
  exact⟨o,es,ep,t,hm.heap S _ hSw ho,rest⟩
 | succ k ih =>
  intro i s hk hi hst hS hR
  have hlt:i < n:=by omega
  refine codeAny_builtin PyProof.Rows.F.entry_set_update_loop ?_;rw[Around.under_plainId PyProof.Rows.F.plain_set_update_loop _]
  show wpAny _ A.in1 (pyNext (.ref I) >>= _) _ _ s;refine wpAny_bind (W.item i s _ _ hlt hst fun v s' hP hst' hm=>?_)
  obtain⟨x,t,hx,rfl⟩:=hval i v hP
  have hS':s'.heap.SetOf (PySem.strKind prog w) S (fun x=>decide (x∈metS (ss.take i))) (metS (ss.take i)).length:=by
   skip;obtain⟨o,es,ep,tb,ho,rest⟩:=hS
   skip;exact⟨o,es,ep,tb,hm.heap S _ hSw ho,rest⟩
  show wpAny _ A.in1 (holding [Value.str x t] (setAdd S (.str x t)) >>= _) _ _ s'
  refine wpAny_bind (wpAny_holding ?_);unfold setAdd;refine wpAny_holding ?_
  have hkey:(PySem.strKind prog w).is x (.str x t)=true:=by simp[PySem.strKind,Value.isStrOf]
  refine wpAny_bind ((PySem.strKind prog w).pyHash (k:=x) hkey ?_)
  have le:=jea (ss.take i)
  rw[List.length_take] at le
  refine wpAny_setAddHashed_of (knd:=PySem.strKind prog w) hkey rfl hS' (by omega) fun h' hsb hS2=>?_
  have et:ss.take (i+1)=ss.take i++[x]:=by rw[List.take_add_one,hx];rfl
  have hSi:h'.SetOf (PySem.strKind prog w) S (fun x=>decide (x∈metS (ss.take (i+1)))) (metS (ss.take (i+1))).length:=by
   refine SetOf_congr hS2 (fun y=>?_) ?_
   ·rw[et,j23,decide_eq_decide.mpr (jab _ _ _),Bool.decide_or]
   ·rw[et,j23,j6v]
    simp
  refine wpAny_pure ⟨plainId_quiet PyProof.Rows.F.plain_set_update_loop _,ih (i+1) _ (by omega) hlt (W.frame _ s' _ _ hst' (by first | exact Nat.le_succ _ | exact Nat.le_refl _) fun b hb o e=>?_) hSi fun s'' hm'' hS''=>?_⟩
  ·skip;rw[hsb.2 b (fun h:b=S=>hSf (by rw[← h];exact hb))];exact e
  ·refine hR s'' (Moved.trans W.gtrans ((hm.mono sub2).then_heap (by first | exact Nat.le_succ _ | exact Nat.le_refl _) fun b o hb e=>?_) hm'') hS''
   skip;rw[hsb.2 b (fun h:b=S=>hb (by rw[h];exact List.mem_cons_self))];exact e
end
theorem jd5:isSubtype (.type "tuple") (.type "set")=pure false:=by rw[isSubtype_type];kernel_rfl
theorem jad:isSubtype (.type "tuple") (.type "frozenset")=pure false:=by rw[isSubtype_type];kernel_rfl
abbrev newSet (led:Bool):Obj:={ cls:=.type "set",dict:=none,data:=.set #[] 0 (.fresh 0 0 led) }
section
variable {prog:Program}{w:World}{A:Around}{E:Value→Shared→Prop}{s:Shared}
set_option maxHeartbeats 8000000 in
theorem j5q {l:Addr}{items:Array Value}{ss:List Str}{Q:Value→Shared→Prop} (hh:A.handled=none) (hl:s.heap.IsTuple l items) (hi:∀ (i:Nat) (v:Value),items[i]?=some v→∃ x t,ss[i]?=some x∧v=.str x t) (hz:ss.length=items.size) (hb:items.size+1 < scanBound)
  (h:∀ (h':Heap) (tk:Nat),h'.SetOf (PySem.strKind prog w) s.heap.objs.size (fun x=>decide (x∈metS ss)) (metS ss).length→(∀ b o,b < s.heap.objs.size→s.heap.get? b=some o→h'.get? b=some o)→Q (.ref s.heap.objs.size) { s with heap:=h',toks:=tk }) :
  wpAny (model prog w) A (call (Value.type "set") [.ref l]) Q E s:=by
 obtain⟨c,tl,hmro⟩:=PySem.F.called_set.mro
 have hmade:=PySem.F.called_set.made
 have hsub:=PySem.F.called_set.sub
 refine wpAny_call (codeAny_of_tree ?_);show wpAny _ _ (callAny (.type "set") _) _ _ _;refine wpAny_pure ⟨Code.quiet_builtin _ (by decide +kernel),codeAny_builtin PySem.F.entry_type_call ?_⟩
 skip;rw[Around.under_plain (weight_type_call_type "set" [.ref l] []) rfl]
 have h1:=PySem.F.called_set.notType
 have h2:=PySem.F.called_set.canCreate
 have hct:=PySem.F.typeCall_set_1 (.ref l)
 skip;repeat (any_goals (first | assumption | wp_step))
 refine codeAny_mono (code_set_new_1 (.ref l) (E:=E) (Q₁:=fun obj s₁=>∃ led:Bool,obj=.ref s.heap.objs.size∧s₁={ s with heap:=s.heap.push (newSet led) }) fun led=>⟨led,rfl,rfl⟩) fun r s₁ hr=>?_
 cases r with
 | error e=>exact hr
 | ok fl =>
  cases fl with
  | ret obj =>
   obtain⟨led,rfl,rfl⟩:=hr
   have hS:(s.heap.push (newSet led)).get? s.heap.objs.size=some (newSet led):=Heap.get?_push_size _ rfl
   have hT:Shared.TypeIs { s with heap:=s.heap.push (newSet led) } (.ref s.heap.objs.size) "set":=⟨_,hS,rfl⟩
   have hli:=PySem.F.called_set.init.lookup
   have hbi:=PySem.F.called_set.init.bind (.ref s.heap.objs.size)
   skip;repeat (any_goals (first | assumption | wp_step))
   refine codeAny_mono (codeAny_call_builtin (R:=wants (fun r s₂=>r=.none∧∃ h' tk,s₂={ s with heap:=h',toks:=tk }∧h'.SetOf (PySem.strKind prog w) s.heap.objs.size (fun x=>decide (x∈metS ss)) (metS ss).length∧(∀ b o,b < s.heap.objs.size→s.heap.get? b=some o→h'.get? b=some o)) E) PySem.F.called_set.init.plain PySem.F.entry_set_init (check_set_init_1 hT ?_)) fun r₂ s₂ hr₂=>?_
   ·obtain⟨⟨ocls,odict,odata,oslots⟩,hol,hcl,nl,hdl⟩:=hl
    replace hcl:ocls=.type "tuple":=hcl
    replace hdl:odata=.seq items nl:=hdl
    subst hcl hdl
    have hol':(s.heap.push (newSet led)).get? l=some { cls:=.type "tuple",dict:=odict,data:=.seq items nl,slots:=oslots }:=Heap.get?_push_of_some _ hol
    have hsls:=jd5
    have hslf:=jad
    have hne:(Value.type "tuple" == Value.type "dict")=false:=by decide
    have hl1:(s.heap.push (newSet led)).IsTuple l items:=⟨_,hol',rfl,nl,rfl⟩
    unfold Builtin.«set.__init__» noKeywords Builtin.Frozenset.updateFrom;generalize hPI:pyIter=PI;wp_walk;subst hPI
    refine wpAny_pyIter_tuple hl1 (wpAny_bind (wpAny_runValue ?_))
    skip;have hlS:l < s.heap.objs.size:=Heap.lt_size hol
    have hh3:A.in1.in1.in1.handled=none:=hh
    have hneI:l≠(s.heap.push (newSet led)).objs.size:=by rw[Heap.size_push];exact Nat.ne_of_lt (Nat.lt_succ_of_lt hlS)
    have hSf:s.heap.objs.size∉[(s.heap.push (newSet led)).objs.size,l]:=by
     rw[Heap.size_push];simp only[List.mem_cons,List.mem_nil_iff,or_false,not_or]
     skip;exact⟨Nat.ne_of_lt (Nat.lt_succ_self _),Nat.ne_of_gt hlS⟩
    refine jd4 ((Walks.tuple hh3 _ l hneI items).toS) s.heap.objs.size hSf ss hz hi hb (items.size-0) 0 _ (by omega) (Nat.zero_le _) ⟨⟨_,Heap.get?_push_size _ rfl,rfl,rfl⟩,⟨_,Heap.get?_push_of_some _ hol',rfl,nl,rfl⟩⟩ ?hS0 ?hR
    case hS0 =>
     exact SetOf_congr ((setObjOf_fresh (knd:=PySem.strKind prog w) led).setOf (Heap.get?_push_of_some _ hS) (by unfold scanBound;omega)) (fun _=>rfl) rfl
    case hR =>
     intro s' hm hS'
     obtain⟨h',g',d',t',o'⟩:=s'
     skip;have eg:g'=s.gens:=hm.gens
     skip;have ed:d'=s.drawn:=hm.drawn
     have eo:o'=s.os:=hm.os
     subst eg ed eo
     show wpAny _ _ _ _ _ _;refine wpAny_pure ?_;show wpAny _ _ (ret Value.none) _ _ _
     refine wpAny_pure ⟨rfl,h',t',rfl,hS',fun b o hb e=>?_⟩
     have hb2:b≠(s.heap.push (newSet led)).objs.size:=by rw[Heap.size_push];exact Nat.ne_of_lt (Nat.lt_succ_of_lt hb)
     refine hm.heap b o ?_ (Heap.get?_push_of_some _ (Heap.get?_push_of_some _ e))
     simp only[List.mem_cons,List.mem_nil_iff,or_false,not_or]
     exact⟨Nat.ne_of_lt hb,hb2⟩
   ·cases r₂ with
    | error e=>exact hr₂
    | ok fl₂ =>
     cases fl₂ with
     | ret r =>
      skip;obtain⟨rfl,h',tk,rfl,hS',hk'⟩:=hr₂
      skip;repeat (any_goals (first | assumption | wp_step))
      exact h _ _ hS' hk'
     | _=>exact hr₂.elim
  | _=>exact hr.elim
end
theorem jeb:∀ {ss:List Str}{us:List Value},Vals (ss.map V.str) us→∀ (i:Nat) (v:Value),us[i]?=some v→∃ x t,ss[i]?=some x∧v=.str x t
 | [],us,r,i,v,h=>by cases r;simp at h
 | x :: ss,us,r,i,v,h=>by
  cases r with
  | cons r1 r2 =>
   cases i with
   | zero =>
    obtain⟨t,e⟩:=r1
    simp at h
    exact⟨x,t,rfl,by rw[← h,e]⟩
   | succ i=>exact jeb r2 i v (by simpa using h)
theorem j5r:∀ {ss:List Str}{us:List Value},Vals (ss.map V.str) us→StrsAre us ss
 | [],us,r=>by cases r;exact .nil
 | x :: ss,us,r=>by
  cases r with
  | cons r1 r2 =>
   obtain⟨t,e⟩:=r1
   subst e
   exact .cons x t (j5r r2)
theorem j7y:∀ {us:List Value}{ss:List Str},StrsAre us ss→Vals (ss.map V.str) us
 | _,_,.nil=>.nil
 | _,_,.cons x t h=>.cons ⟨t,rfl⟩ (j7y h)
section
variable {X:Cx}
def jec (K:PySem.W.Frag):List V→Hp→VK→Prop:=fun xs H Q=>∃ (p:Addr) (ss:List Str),xs=[.ref p]∧SqT K H p (ss.map V.str)∧ss.length≤1000∧Q (.int ((metS ss).length:Nat)) H
theorem j7z {a:Expr}{ta:TA}{p p' pos pos':Pos} (hc:X.calm=true) (hg:Gl X "len") (hm:X.mg "len"=none) (hg2:Gl X "set") (hm2:X.mg "set"=none) (ha:PA X [a] ta) (hs:starEach [a] X.env=[(false,eval a X.env)]:=by rfl)
  (ht:starEach [.Call (.Name "set" p') [a] [] pos'] X.env=[(false,eval (.Call (.Name "set" p') [a] [] pos') X.env)]:=by rfl) :
  PE X (.Call (.Name "len" p) [.Call (.Name "set" p') [a] [] pos'] [] pos) (tCB (jec X.K) ta):=by
 intro pins s σ H Q I h
 refine wpAny_Call_Name_kw (j1y I hg hm PySem.boot_len (PyProof.Rows.callWith_builtin1 ?_ ht rfl) (by decide) (by decide))
 rw[ht]
 show wpAny _ _ (spliced ((false,eval (.Call (.Name "set" p') [a] [] pos') X.env) :: backTo pos [])) _ _ s
 refine Calls.spliced_cons (wpAny_Call_Name_kw (j1y I hg2 hm2 boot_set (PyProof.Rows.callWith_type1 (thn (ha pos' pins s σ H _ I h) fun us s1 ⟨vs,H1,I1,r1,q1⟩=>?_) hs rfl) (by decide) (by decide)))
 obtain⟨p1,ss,e,hx,hz,q⟩:=q1
 subst e
 obtain⟨u,rfl,ru⟩:=j5c r1
 cases ru
 obtain⟨its,ri,pl,_⟩:=I1.tuple hx
 have hl:=ri.length
 rw[List.length_map] at hl
 have le:=jea ss
 refine j5q (ss:=ss) (I1.ok.hd hc) pl (fun i v hv=>jeb ri i v (by simpa using hv)) (by rw[List.size_toArray];exact hl) (by rw[List.size_toArray];unfold scanBound;omega) fun h' tk hS hk=>Calls.spliced_nil ?_
 obtain⟨o,es,ep,t,ho,hex,hd,_,_,_,hf,hn⟩:=hS
 refine call_len_set ho hex hd hf (by omega) ⟨.int ((metS ss).length:Nat),H1,?_,⟨_,by rw[hn]⟩,q⟩
 exact I1.kept (t':=tk+1+1) fun b o e=>hk b o (Heap.lt_size e) e
theorem jae {K:PySem.W.Frag}{H:Hp}{Q:VK}{p:Addr}{ss:List Str} (h:H p=some (.tup (ss.map V.str))) (hz:ss.length≤1000) (q:Q (.int ((metS ss).length:Nat)) H):jec K [.ref p] H Q:=⟨p,ss,rfl,SqT.of h,hz,q⟩
end
section
variable {prog:Program}{w:World}{A:Around}{E:Value→Shared→Prop}{s:Shared}
theorem jg2 {b:Bool}{l:Addr}{vs:List Value}{ss:List Str}{Q:Value→Shared→Prop} (hl:SqA b s.heap l vs.toArray) (hz:vs.length≤sizeLine) (hS:StrsAre vs ss) (h64:vs.length < 64)
  (h:∀ (out:Array Value) (ss':List Str),StrsAre out.toList ss'→ss'.Perm ss→sortedS ss'=true→Q (.ref (s.heap.objs.size+1)) { s with heap:=sortedAll s.heap vs out }):wpAny (model prog w) A (call (.builtin "sorted") [.ref l]) Q E s:=by
 refine Calls.call_function_entry kind_sorted plain_sorted entry_sorted (args_sorted1 _) ?_;unfold Builtin.«sorted»
 refine wpAny_bind (m:=checkCount "sorted" 1 1 _) (wpAny_pure (wpAny_bind (ja9 hl hz (wpAny_bind (wpAny_newList ?_)))))
 have n1:((s.heap.push (seqObj "list" #[] 0)).update s.heap.objs.size (Obj.mapSeq (·++vs.toArray))).objs.size=s.heap.objs.size+1:=by rw[Heap.size_update,size_push']
 have o1:(((s.heap.push (seqObj "list" #[] 0)).update s.heap.objs.size (Obj.mapSeq (·++vs.toArray))).push (seqObj "list" vs.toArray 0)).get? (s.heap.objs.size+1)=some (seqObj "list" vs.toArray 0):=by rw[← n1];exact Heap.get?_push_size _ rfl
 show wpAny _ _ _ _ _ { s with heap:=((s.heap.push (seqObj "list" #[] 0)).update s.heap.objs.size (Obj.mapSeq (·++vs.toArray))).push (seqObj "list" vs.toArray 0) };rw[n1]
 refine wpAny_bind (wpAny_holding (wpAny_call_entry slot_list_sort ⟨_,o1,rfl⟩ entry_list_sort (list_sort_treeK strKind_oneLt o1 hS.keysOf (fun v₁ v₂ rest e=>keyKind_strs (by rw[← e];exact hS)) h64 fun st' a1 a2=>⟨_,rfl,?_⟩) (args_list_sort _)))
 obtain⟨ss',e1,e2,e3⟩:=sorted_out_str hS a1 a2
 exact wpAny_pure ⟨_,rfl,h _ ss' e1 e2 e3⟩
end
section
variable {X:Cx}
def jja (K:PySem.W.Frag):List V→Hp→VK→Prop:=fun xs H Q=>∃ (p:Addr) (ss:List Str) (c:Bool),xs=[.ref p]∧SqE K H p (ss.map V.str) c∧ss.length < 64∧∀ l (ss':List Str),H l=none→ss'.Perm ss→sortedS ss'=true→Q (.ref l) (upd H l (.lst (ss'.map V.str)))
theorem cSortS:CallR X (.builtin "sorted") (jja X.K):=by
 intro pins s σ H xs us Q I r h
 obtain⟨p,ss,c,rfl,hq,h64,q⟩:=h
 obtain⟨u,rfl,rx⟩:=j5c r
 cases rx
 obtain⟨its,r',pl,hz⟩:=I.sqe hq
 have hlen:=r'.length
 rw[List.length_map] at hlen hz
 refine jg2 pl (by omega) (j5r r') (by omega) fun out ss' a1 a2 a3=>?_
 obtain⟨e,he⟩:=sortedAll_at s.heap its out
 refine⟨.ref (s.heap.objs.size+1),_,I.laid (t':=s.toks) (fun b o q=>sortedAll_old q) (Nat.le_succ _) (show ObjOk X.prog X.w _ _ _ (.lst (ss'.map V.str)) from⟨by rw[List.length_map,a2.length_eq];exact hz,out.toList,e,j7y a1,by simpa using he⟩),rfl,q _ ss' (I.hok.fresh (Nat.le_succ _)) a2 a3⟩
def jg3 (K:PySem.W.Frag):List V→Hp→VK→Prop:=fun xs H Q=>je9 K xs H Q∨jja K xs H Q
theorem j6w:CallR X (.builtin "sorted") (jg3 X.K):=jiz.or cSortS
end
section
variable {K:PySem.W.Frag}{σ:St}{H:Hp}{Q:VK}
theorem jjb {i j:Int} (q:Q (.int (i+j)) H):jnn K (.int i) (.int j) H Q:=.inl (jj1 q)
theorem j80 {l b:Addr}{xs zs:List V} (h1:H l=some (.lst xs)) (h2:H b=some (.lst zs)) (hl:xs.length+zs.length≤1000000) (q:∀ p H',H p=none→H' p=some (.lst (xs++zs))→Ext H H'→Q (.ref p) H'):jnn K (.ref l) (.ref b) H Q:=.inl (r_catL h1 h2 hl q)
theorem jjc {i j:Int} (c:CMulB i j) (q:Q (.int (i * j)) H):rMulW (.int i) (.int j) H Q:=.inl (r_I c q)
theorem r_leWI {i j:Int} (q:Q (.bl (decide (i≤j))) H):rLeW (.int i) (.int j) H Q:=.inl (r_I0 q)
theorem r_leWS {i j:Str} (q:Q (.bl (!decide (j.cps.toList < i.cps.toList))) H):rLeW (.str i) (.str j) H Q:=.inr ⟨i,j,rfl,rfl,q⟩
theorem jaf {z:Str} (h:z.length≤1000000) (q:Q (.int z.length) H):jj8 K [.str z] H Q:=.inr ⟨z,rfl,by rw[sizeLine_eq];omega,q⟩
theorem j1q {p:Addr}{xs:List V} (h:H p=some (.lst xs)) (q:Q (.int xs.length) H):jj8 K [.ref p] H Q:=.inl (r_lenL h q)
theorem j24 {p:Addr}{xs:List V} (h:H p=some (.tup xs)) (q:Q (.int xs.length) H):jj8 K [.ref p] H Q:=.inl (r_lenT h q)
theorem j5s {p:Addr}{xs:List V} (h:SqL K H p xs) (q:Q (.int xs.length) H):jj8 K [.ref p] H Q:=.inl (r_lenS h q)
theorem j38 {p:Addr}{ss:List Str} (h:H p=some (.tup (ss.map V.str))) (hl:ss.length < 64) (q:∀ l (ss':List Str) H',H l=none→ss'.Perm ss→sortedS ss'=true→H' l=some (.lst (ss'.map V.str))→Ext H H'→Q (.ref l) H'):jg3 K [.ref p] H Q :=
 .inr ⟨p,ss,true,rfl,SqT.of h,hl,fun l ss' n h1 h2=>q l ss' _ n h1 h2 j07 (j0j n)⟩
theorem r_istr {tl:TE}{R:It→Hp→Prop} (q:tl σ H fun x H1=>∃ z,x=.str z∧AscS z∧R (Its z) H1):iStr tl σ H R:=q
end
section
variable {K:PySem.W.Frag}{H:Hp}{Q:V→Hp→Prop}
theorem jag {p:Addr}{ss:List Str} (h:H p=some (.lst (ss.map V.str))) (hl:ss.length < 64) (q:∀ l (ss':List Str) H',H l=none→ss'.Perm ss→sortedS ss'=true→H' l=some (.lst (ss'.map V.str))→Ext H H'→Q (.ref l) H'):jg3 K [.ref p] H Q :=
 .inr ⟨p,ss,false,rfl,SqL.of h,hl,fun l zs n hp ho=>q l zs _ n hp ho j07 (j0j n)⟩
end
theorem jjd:∀ i:Fin 26,Builtin.Str.occurrences (Str.ofString "abcdefghijklmnopqrstuvwxyz") ⟨#[97+i.val]⟩ 0 (Str.ofString "abcdefghijklmnopqrstuvwxyz").length 1=[i.val]:=by decide +kernel
section
variable {prog:Program}{w:World}{A:Around}{E:Value→Shared→Prop}{s:Shared}
theorem j90 {t sl:Addr}{items:Array Value}{vl vu:Value}{lo hi:Option Int}{Q:Value→Shared→Prop} (ht:IsTup s.heap t items) (hs:s.heap.IsSliceOf sl vl vu .none) (pl:IsPart vl lo) (pu:IsPart vu hi)
  (hw:HT.sIx items.size 0 lo=0∧HT.sIx items.size items.size hi=items.size) (h:Q (.ref t) s):wpAny (model prog w) A (getItem (.ref t) (.ref sl)) Q E s:=by
 obtain⟨os,hos,hcs,hds⟩:=id hs
 have hTs:s.TypeIs (.ref sl) "slice":=⟨os,hos,hcs⟩
 unfold getItem
 try with_reducible refine wpAny_holding ?_
 first | refine wpAny_bind (wpAny_pure ?_) | skip
 skip;refine wpAny_bind (wpAny_sequenceKey ht.typeIs (by decide) ?_)
 refine wpAny_bind (wpAny_callSpecial?_slot (name:=Str.ofString "__getitem__") ht.typeIs slot_tuple_getitem (wpAny_call_entry slot_tuple_getitem ht.typeIs entry_tuple_getitem ?_ (args_tuple_getitem _ _)))
 show wpAny _ _ (Builtin.Tuple.tupleItemsOf (.ref t) >>= _) _ _ s
 skip;refine wpAny_bind (tupleItemsOf_ ht ?_)
 skip;refine wpAny_bind (wpAny_typeOf hTs ?_)
 rw[if_pos (by decide)]
 skip;refine wpAny_bind (HT.sliceApplied_gen hs pl pu ?_)
 have hyes:(((HT.sIx items.size 0 lo:Nat):Int) == 0 && (1:Int) == 1 && (HT.sIx items.size items.size hi-HT.sIx items.size 0 lo) == items.size)=true:=by
  rw[hw.1,hw.2]
  simp
 show wpAny _ _ (if (((HT.sIx items.size 0 lo:Nat):Int) == 0 && (1:Int) == 1 && (HT.sIx items.size items.size hi-HT.sIx items.size 0 lo) == items.size)=true then _ else _) _ _ s
 rw[if_pos hyes]
 refine wpAny_bind (wpAny_bind (wpAny_typeOf ht.typeIs (wpAny_pure ?_)))
 rw[if_pos (by decide)]
 first
  | exact wpAny_bind (wpAny_rule (wpAny_bind (wpAny_pure (wpAny_pure ⟨_,rfl,wpAny_pure h⟩))))
  | exact wpAny_bind (wpAny_pure (wpAny_bind (wpAny_pure (wpAny_pure ⟨_,rfl,wpAny_pure h⟩))))
  | exact wpAny_bind (wpAny_rule (wpAny_pure ⟨_,rfl,wpAny_pure h⟩))
end
section
variable {X:Cx}
def rSlW (K:PySem.W.Frag):V→Option Int→Option Int→Hp→VK→Prop:=fun x lo hi H Q=>∃ a xs,x=.ref a∧SqT K H a xs∧(HT.sIx xs.length 0 lo=0∧HT.sIx xs.length xs.length hi=xs.length)∧Q (.ref a) H
theorem jhf:SlR X (rSlW X.K):=by
 intro pins s σ H x v vl vu lo hi sl Q I rx hs pl pu h
 obtain⟨a,xs,rfl,hx,hw,q⟩:=h
 cases rx
 obtain⟨its,r,ht,hz⟩:=I.tuple hx
 have hlen:its.toArray.size=xs.length:=by rw[List.size_toArray];exact r.length.symm
 refine⟨"tuple",_,slot_tuple_getitem.lookup,ht.typeIs,?_⟩
 exact j90 ht hs pl pu (by rw[hlen];exact hw) ⟨.ref a,H,I,rfl,q⟩
def rSlS:V→Option Int→Option Int→Hp→VK→Prop:=fun x lo hi H Q=>∃ z:Str,x=.str z∧z.length≤1000000∧∀ z':Str,(∀ c∈z'.cps.toList,c∈z.cps.toList)→z'.length≤z.length→Q (.str z') H
theorem sl_str:SlR X rSlS:=by
 intro pins s σ H x v vl vu lo hi sl Q I rx hs pl pu h
 obtain⟨z,rfl,hz,q⟩:=h
 obtain⟨t,rfl⟩:=rx
 refine⟨"str",_,F.slot_str_getitem.lookup,typeIs_str _ _ _,?_⟩
 have part:∀ {v:Value}{o:Option Int},IsPart v o→∃ l:Option (Int × Tok),v=partValue l∧l.map (·.1)=o:=fun p=>by
  cases p with
  | none=>exact⟨none,rfl,rfl⟩
  | int i t=>exact⟨some (i,t),rfl,rfl⟩
 obtain⟨l,e1,_⟩:=part pl
 obtain⟨u,e2,_⟩:=part pu
 have hs':s.heap.IsSlice sl l u none:=by
  obtain⟨o,h1,h2,h3⟩:=hs
  exact⟨o,h1,h2,by rw[h3,e1,e2];rfl⟩
 refine wpAny_getItem_str_slice hs' rfl ?_
 unfold sliceMade
 split
 ·exact⟨.str z,H,I,⟨t,rfl⟩,q z (fun c hc=>hc) (Nat.le_refl _)⟩
 ·have hle:((slicePicked z l u none).filterMap (z.cps[·]?)).length≤z.length:=Nat.le_trans (List.length_filterMap_le _ _) (sliceIndices_le _ _ _)
  refine⟨?_,.str _,H,I.tok _,⟨_,rfl⟩,q _ (fun c hc=>?_) ?_⟩
  ·rw[sizeLine_eq]
   show ((slicePicked z l u none).filterMap (z.cps[·]?)).toArray.size≤_
   rw[List.size_toArray]
   omega
  ·have hc':c∈(slicePicked z l u none).filterMap (z.cps[·]?):=by simpa using hc
   obtain⟨i,_,hi⟩:=List.mem_filterMap.mp hc'
   have:=Array.mem_of_getElem? hi
   simpa using this
  ·show ((slicePicked z l u none).filterMap (z.cps[·]?)).toArray.size≤_
   rw[List.size_toArray]
   exact hle
def rSlV (K:PySem.W.Frag):V→Option Int→Option Int→Hp→VK→Prop:=fun x lo hi H Q=>(rSlU K x lo hi H Q∨rSlW K x lo hi H Q)∨rSlS x lo hi H Q
theorem oSlV:SlR X (rSlV X.K):=(oSl.or jhf).or sl_str
theorem jd6 {xs:List V}{lo hi:Option Int} (h:HT.sIx xs.length 0 lo=0∧HT.sIx xs.length xs.length hi=xs.length):cutV xs lo hi=xs:=by
 unfold cutV
 rw[h.1,h.2,List.drop_zero,Nat.sub_zero,List.take_length]
variable {o i value:Expr}{pos pos':Pos}{td ty tv:TE}
theorem j39 {k:Nat} (hr:Room k X.A) (ho:PE X o td) (hi:PE X i ty) (hs:NoSl i):PE X (.Subscript o i pos) (jmk td ty):=ji8 (by have:=hr.un;omega) ho hi hs
theorem jg5 {k:Nat} (hr:Room k X.A) (ho:PE X o td) (hi:PE X i ty) (hv:PE X value tv) (hs:swapsWith value (some (.Subscript o i pos')) pos.line X.env=pure false):PS X (.Assign [.Subscript o i pos'] value pos) (jml td ty tv):=ji9 (by have:=hr.un;omega) ho hi hv hs
end
section
variable {K:PySem.W.Frag}{σ:St}{H:Hp}{Q:VK}{td ty tv:TE}
def rDGet (x y:V) (H:Hp) (Q:VK):Prop:=∃ a v,x=.ref a∧DGet H a y (some v)∧Q v H
def rDPut (x y v:V) (H:Hp) (R:Hp→Prop):Prop:=∃ a H4,x=.ref a∧DPut H a y v H4∧R H4
theorem r_dget (q:td σ H fun x H1=>ty σ H1 fun y H2=>rDGet x y H2 Q):jmk td ty σ H Q:=q
theorem r_dput {D:Ends} (q:tv σ H fun v H1=>td σ H1 fun x H2=>ty σ H2 fun y H3=>rDPut x y v H3 fun H4=>D.nx σ H4):jml td ty tv D σ H:=q
end
section
variable {X:Cx}
def It2 (n:Nat):It:=⟨fun i _=>i < n,fun i H x H'=>H'=H∧x=.int (2 * (i:Nat)),fun i _=>n≤i⟩
theorem jg6 {P:Program}{w:World}{K:PySem.W.Frag}{tg:Expr} (it:Addr) (n:Nat):Turn P w K tg (It2 n) [it] it (fun i h=>IsRangeIter h it (0+(i:Nat) * 2) ((n:Int)-(i:Nat)) 2) where
 mem:=by simp
 obj:=fun i h st b hb=>by
  have e:b=it:=by simpa using hb
  subst e
  exact⟨_,st,fun v z=>by
   have z':Data.fields _=Data.cell v:=z
   cases z'⟩
 keep:=fun i h h' st k=>k it (by simp) _ st
 item:=by
  intro X hP hw hK hc i pins s σ H E I hf st hg
  subst hP hw hK
  obtain⟨f0,f1,f2,f3,f4,f5⟩:=hf it (by simp)
  have W:=Walks.range (prog:=X.prog) (w:=X.w) (I.ok.hd hc) it 0 2 n
  refine W.item i s _ _ hg st fun v h' tk hv st' kk=>?_
  obtain⟨t,rfl⟩:=hv
  have I1:Inv X pins σ H { s with heap:=h',toks:=tk }:=I.turned (fun b o hb e=>kk b o (by simpa using hb) e) f0 f1 f3 f4 f5
  refine⟨_,rfl,jf6 (s:={ s with heap:=h',toks:=tk }) (n:="range_iterator") st' rfl rfl (by decide) ⟨.int (2 * (i:Nat)),H,I1,⟨t,?_⟩,⟨rfl,rfl⟩,st',fun b hb=>(hf b hb).1⟩⟩
  rw[Int.zero_add,Int.mul_comm]
 done:=by
  intro X hP hw hK hc i pins s σ H E I hf st hg
  subst hP hw hK
  obtain⟨f0,f1,f2,f3,f4,f5⟩:=hf it (by simp)
  exact wpAny_pyNext_range_end (I.ok.hd hc) st (by have:n≤i:=hg;omega) fun h' eb=>⟨rfl,I.turned (t':=s.toks) (fun b o hb e=>eb b o hb e) f0 f1 f3 f4 f5⟩
 self:=fun _ _ _ _ _ st h=>wpAny_pyIter_rangeiter st h
theorem jah {j:Int} (h0:0≤j):Builtin.Range.rangeSize 0 j 2=((j+1) / 2):=by
 skip;unfold Builtin.Range.rangeSize
 simp only[show (2:Int) > 0 by decide,if_true]
 split <;> omega
theorem jd7 {j:Int} (h0:0≤j) (h1:j≤1000):Builtin.Range.small 0 j 2=true:=by
 unfold Builtin.Range.small
 rw[jah h0]
 simp only[Builtin.Range.rangeFitsLong,Bool.and_eq_true,Bool.or_eq_true,decide_eq_true_eq,beq_iff_eq,show (2:Int) > 0 by decide,if_true]
 omega
theorem by2_it {tg:Expr}{pins:List (Addr × Obj)}{σ:St}{H:Hp}{s:Shared}{R:It→Hp→Prop}{E:Value→Shared→Prop}{j:Int}{t u v:Tok}{tk:Nat} (I:Inv X pins σ H s) (h0:0≤j) (h1:j≤1000)
  (q:R (It2 ((j+1) / 2).toNat) H):wpAny (model X.prog X.w) X.A (pyIter (.ref s.heap.objs.size)) (PIE X pins σ tg R) E { s with heap:=s.heap.push { cls:=.type "range",data:=.fields #[.int 0 t,.int j u,.int 2 v] },toks:=tk }:=by
 refine wpAny_pyIter_range (IsRange.new ..) (jd7 h0 h1) ?_
 have I1:Inv X pins σ H { s with heap:=s.heap.push { cls:=.type "range",data:=.fields #[.int 0 t,.int j u,.int 2 v] },toks:=tk }:=I.kept fun b o e=>Heap.get?_push_of_some _ e
 refine⟨(s.heap.push { cls:=.type "range",data:=.fields #[.int 0 t,.int j u,.int 2 v] }).objs.size,[(s.heap.push { cls:=.type "range",data:=.fields #[.int 0 t,.int j u,.int 2 v] }).objs.size],_,_,H,rfl,
  I1.kept (t':=tk) fun b o e=>Heap.get?_push_of_some _ e,jg6 _ ((j+1) / 2).toNat,?_,fun b hb=>?_,q⟩
 ·have e1:(0:Int)+((0:Nat):Int) * 2=0:=by simp
  have e2:((((j+1) / 2).toNat:Nat):Int)-((0:Nat):Int)=Builtin.Range.rangeSize 0 j 2:=by rw[jah h0];omega
  show IsRangeIter _ _ ((0:Int)+((0:Nat):Int) * 2) (((((j+1) / 2).toNat:Nat):Int)-((0:Nat):Int)) 2
  rw[e1,e2]
  exact Heap.get?_push_size _ rfl
 ·have e:b=(s.heap.push { cls:=.type "range",data:=.fields #[.int 0 t,.int j u,.int 2 v] }).objs.size:=by simpa using hb
  subst e
  exact I1.fpOk (Nat.le_refl _) (I1.hok.fresh (Nat.le_refl _))
def rBy2 (vs:List V) (H:Hp) (R:It→Hp→Prop):Prop:=∃ j:Int,vs=[.int 0,.int j,.int 2]∧0≤j∧j≤1000∧R (It2 ((j+1) / 2).toNat) H
def iBy2 (ta:TA):TI:=fun σ H R=>ta σ H fun vs H1=>rBy2 vs H1 R
theorem pi_by2 {tg a b c:Expr}{ta:TA}{p pos:Pos} (hg:Gl X "range") (hm:X.mg "range"=none) (ha:PA X [a,b,c] ta) (hs:starEach [a,b,c] X.env=(false,eval a X.env) :: starEach [b,c] X.env:=by rfl) (hs2:(backTo pos (starEach [b,c] X.env)).any (·.1)=false:=by rfl) :
  PI X tg (.Call (.Name "range" p) [a,b,c] [] pos) (iBy2 ta):=by
 intro pins s σ H R I h
 refine Call_ (j1y I hg hm boot_range (PyProof.Rows.callWith_type1 (thn (ha pos pins s σ H _ I h) fun us s1 ⟨vs,H1,I1,r1,q1⟩=>?_) hs hs2))
 obtain⟨j,e,q1,q2,q⟩:=q1
 subst e
 cases r1 with
 | cons r rr =>
  cases rr with
  | cons r' rr =>
   cases rr with
   | cons r'' rr =>
    cases rr
    obtain⟨t,rfl⟩:=r
    obtain⟨t',rfl⟩:=r'
    obtain⟨t'',rfl⟩:=r''
    exact call_range_3 (by decide) (by2_it I1 q1 q2 q) (Or.inl (PyProof.noPylong_small (by omega)))
end
section
variable {σ:St}{H:Hp}
theorem r_by2 {ta:TA}{R:It→Hp→Prop} (q:ta σ H fun vs H1=>rBy2 vs H1 R):iBy2 ta σ H R:=q
theorem jje {n:Nat}{g:TG}{tb:TS}{D:Ends} (Pv:Nat→St→Hp→Prop) (h0:Pv 0 σ H)
  (hs:∀ i σ H,i < n→Pv i σ H→g (.int (2 * (i:Nat))) σ H fun σ2 H2=>tb { D with nx:=Pv (i+1),ct:=Pv (i+1),bk:=D.nx } σ2 H2) (hd:∀ σ H,Pv n σ H→D.nx σ H) :
  ∃ W:Nat→Nat→St→Hp→Prop,(∃ m,W 0 m σ H)∧∀ i m σ H,W i m σ H →
   ((It2 n).stop i H∧D.nx σ H)∨((It2 n).go i H∧∃ N:St→Hp→Prop,(∀ σ' H',N σ' H'→∃ m',m' < m∧W (i+1) m' σ' H')∧∀ x H',(It2 n).yld i H x H'→g x σ H' fun σ2 H2=>tb { D with nx:=N,ct:=N,bk:=D.nx } σ2 H2):=by
 refine⟨fun i m σ H=>m=n-i∧i≤n∧Pv i σ H,⟨n,by simp,Nat.zero_le _,h0⟩,?_⟩
 rintro i m σ H ⟨rfl,hi,p⟩
 by_cases hlt:i < n
 ·refine .inr ⟨hlt,Pv (i+1),fun σ' H' p'=>⟨n-(i+1),by omega,rfl,hlt,p'⟩,fun x H' y=>?_⟩
  obtain⟨e,y⟩:=y
  subst e y
  exact hs i σ _ hlt p
 ·have e:i=n:=by omega
  subst e
  exact .inl ⟨Nat.le_refl _,hd σ H p⟩
end
theorem j3a {α:Type}:∀ (l:List α) (i:Nat) (h:i < l.length),(l[i] :: l.eraseIdx i).Perm l
 | a :: l,0,h=>List.Perm.refl _
 | a :: l,i+1,h=>(List.Perm.swap a _ _).trans (List.Perm.cons a (j3a l i (Nat.lt_of_succ_lt_succ h)))
theorem jed {α:Type} (next:Nat→Nat):∀ (fuel k:Nat) (left:List α) (out:Array α),left.length=fuel→(pickOrder.go next fuel k left out).toList.Perm (out.toList++left)
 | 0,k,left,out,h=>by
  rw[List.length_eq_zero_iff.mp h,List.append_nil]
  exact List.Perm.refl _
 | fuel+1,k,left,out,h=>by
  have lt:next k % left.length < left.length:=Nat.mod_lt _ (by omega)
  unfold pickOrder.go
  rw[List.getElem?_eq_getElem lt]
  refine (jed next fuel (k+1) _ _ (by rw[List.length_eraseIdx_of_lt lt];omega)).trans ?_
  rw[Array.toList_push,List.append_assoc]
  exact List.Perm.append_left _ (j3a _ _ lt)
theorem jd8 {α:Type} (next:Nat→Nat) (xs:Array α):(pickOrder next xs).toList.Perm xs.toList:=jed next xs.size 0 xs.toList #[] (Array.length_toList ..)
theorem jai:Manifest.owners.lookup (String.ofList ['r','o','t','a','r','e','t','i','_','t','e','s'].reverse)=some Manifest.sig_set_iterator:=by kernel_rfl
theorem j0y:Slot "set_iterator" "__next__" "set_iterator.__next__":=.of (owner:="set_iterator") (n:="__next__") (by rw[typeLookup_type,builtinLookup_eq_fast];kernel_rfl) (by decide +kernel) (by decide +kernel) (by decide +kernel) (by first | exact .inl (by decide +kernel) | exact .inr (by decide +kernel)) (by rw[isSubtype_type];kernel_rfl)
theorem j4o:entryFor table "set_iterator.__next__"=some Builtin.«set_iterator.__next__»:=entryFor_of_tree (by kernel_rfl)
theorem j4p (a:Value):argsOk "set_iterator.__next__" ⟨[a],[]⟩:=by unfold argsOk;rw[signature?_of (id:="set_iterator.__next__") (n:=['_','_','t','x','e','n','_','_']) (o:=['r','o','t','a','r','e','t','i','_','t','e','s']) (by kernel_rfl) jai];kernel_rfl
theorem j4q:Slot "set_iterator" "__iter__" "set_iterator.__iter__":=.of (owner:="set_iterator") (n:="__iter__") (by rw[typeLookup_type,builtinLookup_eq_fast];kernel_rfl) (by decide +kernel) (by decide +kernel) (by decide +kernel) (by first | exact .inl (by decide +kernel) | exact .inr (by decide +kernel)) (by rw[isSubtype_type];kernel_rfl)
theorem jaj (a:Value):argsOk "set_iterator.__iter__" ⟨[a],[]⟩:=by unfold argsOk;rw[signature?_of (id:="set_iterator.__iter__") (n:=['_','_','r','e','t','i','_','_']) (o:=['r','o','t','a','r','e','t','i','_','t','e','s']) (by kernel_rfl) jai];kernel_rfl
theorem jak:entryFor table "set_iterator.__iter__"=some Builtin.«dict_keyiterator.__iter__»:=entryFor_alias (id':="dict_keyiterator.__iter__") (by kernel_rfl) (by first | rfl | decide +kernel | (unfold String.splitOn;simp +decide [String.splitOnAux])) (by decide +kernel) (by kernel_rfl)
theorem jal:entryFor table "set.__iter__"=some Builtin.«frozenset.__iter__»:=entryFor_alias (id':="frozenset.__iter__") (by kernel_rfl) (by first | rfl | decide +kernel | (unfold String.splitOn;simp +decide [String.splitOnAux])) (by decide +kernel) (by kernel_rfl)
def byT (w:World):Bool:=w.params.followText "set-order"
abbrev stObj (es:Array (Int × Value)) (ep:Nat) (t:SetTable):Obj:={ cls:=.type "set",dict:=none,data:=.set es ep t,slots:=#[] }
abbrev siObj (f i:Nat) (S:Addr) (n ep:Nat):Obj:={ cls:=.type "set_iterator",dict:=none,data:=.fields #[rawInt f,rawInt i,.ref S,rawInt n,rawInt ep],slots:=#[] }
structure Rise (t:SetTable) (n:Nat) (sl:Nat→Nat):Prop where
 fits:t.fits n=true
 plain:t.plain=true
 zero:sl 0=0
 low:∀ i,i≤n→SetTable.below t.place (sl i)=i
 step:∀ i,i < n→∃ j,t.place[i]?=some j∧j+1=sl (i+1)
def fsOf (w:World) (sl:Nat→Nat) (i:Nat):Nat:=if byT w then 0 else sl i
def j9g (w:World) (S:Addr) (ep:Nat) (es:Array (Int × Value)):Array (Int × Value):=if byT w then pickOrder (w.params.setOrder S ep) es else es
theorem jam (w:World) (S:Addr) (ep:Nat) (es:Array (Int × Value)):(j9g w S ep es).toList.Perm es.toList:=by
 unfold j9g
 split
 ·exact jd8 _ _
 ·exact List.Perm.refl _
theorem jan (w:World) (S:Addr) (ep:Nat) (es:Array (Int × Value)):(j9g w S ep es).size=es.size:=by
 rw[← Array.length_toList,(jam w S ep es).length_eq,Array.length_toList]
section
variable {prog:Program}{w:World}{A:Around}{E:Value→Shared→Prop}{s:Shared}
theorem j2t {Q:Bool→Shared→Prop} (h:Q (byT w) s):wpAny (model prog w) A setsByText Q E s:=by
 unfold setsByText
 skip;exact wpAny_bind (wpAny_askSetting (wpAny_pure h))
theorem jjf {I S:Addr}{f i n ep:Nat}{Q:Value→Shared→Prop} (hI:s.heap.get? I=some (siObj f i S n ep)) (h:Q (.ref I) s):wpAny (model prog w) A (pyIter (.ref I)) Q E s:=by
 have te:s.TypeIs (.ref I) "set_iterator":=⟨_,hI,rfl⟩
 refine wpAny_pyIter_slot te j4q (wpAny_call_entry j4q te jak ?_ (jaj _))
 exact wpAny_pure ⟨_,rfl,"set_iterator",_,te,j0y.lookup,h⟩
end
theorem st_sub:isSubtype (.type "set") (.type "set")=pure true:=by rw[isSubtype_type];kernel_rfl
section
variable {prog:Program}{w:World}{A:Around}{E:Value→Shared→Prop}{s:Shared}
theorem j5t {P:Nat→Value→Prop}{ys:List Value}{acc:Array Value} (h:ItemsOf P acc ys.length) (hp:∀ i v,P i v→ys[i]?=some v):acc.toList=ys:=by
 refine List.ext_getElem? fun i=>?_
 by_cases hi:i < acc.size
 ·have e:acc.toList[i]?=some acc[i]:=by rw[Array.getElem?_toList];exact Array.getElem?_eq_getElem hi
  rw[e]
  exact (hp i _ (h.2 i _ (Array.getElem?_eq_getElem hi))).symm
 ·rw[List.getElem?_eq_none (by rw[Array.length_toList];omega),List.getElem?_eq_none (by have:=h.1;omega)]
end
def tabN (led:Bool) (k:Nat):SetTable:={ mask:=if k < 5 then 7 else 31,place:=Array.range k,dummies:=#[],finger:=0,led:=led,moves:=if k < 5 then 0 else 1,plain:=true }
theorem j46 {α:Type} (xs:List α):∀ k,k≤xs.length→(List.range k).filterMap (xs[·]?)=xs.take k
 | 0,_=>rfl
 | k+1,h=>by
  have e:xs[k]?=some (xs[k]'(by omega)):=List.getElem?_eq_getElem (by omega)
  rw[List.range_succ,List.filterMap_append,j46 xs k (by omega),List.take_add_one,e]
  simp[e]
section
variable {prog:Program}{w:World}{A:Around}{E:Value→Shared→Prop}{s:Shared}
theorem jg7 (a:Value) {QN:Value→Shared→Prop} (h:QN (.ref s.heap.objs.size) { s with heap:=s.heap.push (newSet (!byT w)) }) :
  codeAny (model prog w) A (.call (.builtin "set.__new__") ⟨[.type "set",a],[]⟩) (wants QN E) s:=by
 refine codeAny_of_tree ?_;show wpAny _ A.in1 (do checkBuiltinCall "set.__new__" ⟨[.type "set",a],[]⟩;again (.builtin "set.__new__" ⟨[.type "set",a],[]⟩)) _ _ s
 refine wpAny_bind (wpAny_of_eq (PySem.F.newCall_set_1 a) (wpAny_pure ⟨plainId_quiet PySem.F.plain_set_new _,codeAny_builtin PySem.F.entry_set_new ?_⟩));rw[Around.under_plainId PySem.F.plain_set_new _]
 skip;unfold Builtin.«set.__new__» Builtin.Frozenset.newClass
 have hsub:=sub_set_self
 skip;obtain⟨hp,g,d,tk,os⟩:=s
 dsimp only;wp_walk
 refine wpAny_askSetting (wpAny_pure ?_);dsimp only;simp only[newObj]
 skip;refine wpAny_bind (wpAny_alloc (wpAny_pure (wpAny_pure h)))
end
end L2
set_option Elab.async false
set_option linter.all false
set_option maxRecDepth 100000
set_option maxHeartbeats 4000000
namespace L2
open PySem PySem.Spec PyProof.Rows PySem.W
section
variable {O:KeyOrd}{k:Nat→O.α}{n:Nat}{s:Shared}{cmp:Nat→Nat→(Bool→Shared→Prop)→Shared→Prop}
def kAt (k:Nat→O.α) (p:Array Nat) (i:Nat):O.α:=k (p[i]?.getD 0)
def Asc (k:Nat→O.α) (p:Array Nat) (m:Nat):Prop:=∀ i j,i≤j→j < m→O.kle (kAt k p i) (kAt k p j)
def Dsc (k:Nat→O.α) (p:Array Nat) (m:Nat):Prop:=∀ i j,i≤j→j < m→O.kle (kAt k p j) (kAt k p i)
def OkP (n:Nat) (p:Array Nat):Prop:=p.toList.Perm (List.range n)
theorem OkP.size {p:Array Nat} (h:OkP n p):p.size=n:=by have:=h.length_eq;simpa using this
theorem OkP.lt {p:Array Nat} (h:OkP n p) {i:Nat} (hi:i < n):p[i]?.getD 0 < n:=by
 have hs:=h.size
 rw[Array.getElem?_eq_getElem (by omega),Option.getD_some]
 exact List.mem_range.mp (h.mem_iff.mp (by simp))
theorem OkP.of {p q:Array Nat} (h:OkP n p) (e:q.Perm p):OkP n q:=(Array.perm_iff_toList_perm.mp e).trans h
theorem OkP.rev {p:Array Nat} (h:OkP n p) (i j:Nat):OkP n (kas_rev p i j):=h.of (mirror_perm _ _ _ _)
theorem OkP.bub {p:Array Nat} (h:OkP n p) (i j:Nat):OkP n (bubble p i j):=h.of (bubble_perm _ _ _)
theorem jao {p:Array Nat}{i j:Nat} (hj:j≤p.size) (m:Nat):kAt k (kas_rev p i j) m=if i≤m∧m < j then kAt k p (i+j-1-m) else kAt k p m:=by
 unfold kAt kas_rev
 rw[getElem?_mirror_all hj]
 split <;> rfl
theorem j25 {p:Array Nat}{i j:Nat} (hj:j≤p.size) (he:∀ m,i≤m→m < j→kAt k p m=kAt k p (j-1)) (m:Nat):kAt k (kas_rev p i j) m=kAt k p m:=by
 rw[jao hj]
 split
 ·rw[he _ (by omega) (by omega),he m (by omega) (by omega)]
 ·rfl
theorem jee {p:Array Nat}{a d:Nat} (ha:a < p.size) (hd:d≤a) (m:Nat):kAt k (bubble p a d) m=if m=a-d then kAt k p a else if a-d < m∧m≤a then kAt k p (m-1) else kAt k p m:=by
 unfold kAt
 rw[getElem?_bubble ha d hd]
 split
 ·rfl
 ·split <;> rfl
def Tells (k:Nat→O.α) (n:Nat) (cmp:Nat→Nat→(Bool→Shared→Prop)→Shared→Prop) (s:Shared):Prop:=∀ i j,i < n→j < n→∀ C:Bool→Shared→Prop,C (O.blt (k i) (k j)) s→cmp i j C s
theorem Tells.at (T:Tells k n cmp s) {p:Array Nat} (h:OkP n p) {i j:Nat} (hi:i < n) (hj:j < n) {C:Bool→Shared→Prop} (c:C (O.blt (kAt k p i) (kAt k p j)) s):cmp (p.getD i 0) (p.getD j 0) C s:=by
 rw[Array.getD_eq_getD_getElem?,Array.getD_eq_getD_getElem?]
 exact T _ _ (h.lt hi) (h.lt hj) C c
theorem jg8 {p:Array Nat}{m:Nat} (h:Asc k p m) (h1:1≤m) (c:O.blt (kAt k p m) (kAt k p (m-1))=false):Asc k p (m+1):=by
 intro i j hij hj
 by_cases hm:j < m
 ·exact h i j hij hm
 ·obtain rfl:j=m:=by omega
  by_cases hi:i=j
  ·rw[hi];exact KeyOrd.kle_refl _
  ·exact KeyOrd.kle_trans (h i (j-1) (by omega) (by omega)) c
theorem jnz (T:Tells k n cmp s) {p:Array Nat} (hp:OkP n p) {G:Nat→Shared→Prop}:∀ (f m:Nat),1≤m→m+f≤n→Asc k p m →
  (∀ r,m≤r→r≤m+f→Asc k p r→(r=m+f∨O.klt (kAt k p r) (kAt k p (r-1)))→G r s)→(kas_asc p f m).kasWp cmp G s
 | 0,m,h1,hn,hs,h=>h m (Nat.le_refl _) (Nat.le_refl _) hs (.inl rfl)
 | f+1,m,h1,hn,hs,h=>by
  show cmp (p.getD m 0) (p.getD (m-1) 0) (fun b s'=>(if b=true then KasT.ret m else kas_asc p f (m+1)).kasWp cmp G s') s
  refine T.at hp (by omega) (by omega) ?_
  cases c:O.blt (kAt k p m) (kAt k p (m-1)) with
  | true=>exact h m (Nat.le_refl _) (by omega) hs (.inr c)
  | false=>exact jnz T hp f (m+1) (by omega) (by omega) (jg8 hs h1 c) fun r a b d e=>h r (by omega) (by omega) d (e.imp (fun z=>by omega) id)
def jg9 (k:Nat→O.α) (p:Array Nat) (m q:Nat):Prop:=q+1≤m∧∀ i,m-(q+1)≤i→i < m→kAt k p i=kAt k p (m-1)
theorem j6x {p:Array Nat}{m:Nat} (h:1≤m):jg9 k p m 0:=⟨h,fun i a b=>by rw[show i=m-1 by omega]⟩
theorem j6y {p p':Array Nat}{m:Nat} (e:∀ i,kAt k p' i=kAt k p i) (h:Dsc k p m) (h1:1≤m) (c:O.kle (kAt k p m) (kAt k p (m-1))):Dsc k p' (m+1):=by
 intro i j hij hj
 rw[e,e]
 by_cases hm:j < m
 ·exact h i j hij hm
 ·obtain rfl:j=m:=by omega
  by_cases hi:i=j
  ·rw[hi];exact KeyOrd.kle_refl _
  ·exact KeyOrd.kle_trans c (h i (j-1) (by omega) (by omega))
theorem jd9 (T:Tells k n cmp s) {G:Array Nat × Nat × Nat→Shared→Prop}:∀ (f:Nat) (p:Array Nat) (m q:Nat),OkP n p→1≤m→m+f≤n→Dsc k p m→jg9 k p m q →
  (∀ p' r q',OkP n p'→m≤r→r≤m+f→Dsc k p' r→jg9 k p' r q'→G (p',r,q') s)→(kas_desc f p m q).kasWp cmp G s
 | 0,p,m,q,hp,h1,hn,hd,he,h=>h p m q hp (Nat.le_refl _) (Nat.le_refl _) hd he
 | f+1,p,m,q,hp,h1,hn,hd,he,h=>by
  show cmp (p.getD m 0) (p.getD (m-1) 0) (fun b s'=>(if b=true then (if q > 0 then kas_desc f (kas_rev p (m-(q+1)) m) (m+1) 0 else kas_desc f p (m+1) 0) else KasT.ask (p.getD (m-1) 0) (p.getD m 0) fun d=>if d=true then .ret (p,m,q) else kas_desc f p (m+1) (q+1)).kasWp cmp G s') s
  refine T.at hp (by omega) (by omega) ?_
  have hsz:=hp.size
  cases c:O.blt (kAt k p m) (kAt k p (m-1)) with
  | true =>
   rw[if_pos rfl]
   have cl:O.kle (kAt k p m) (kAt k p (m-1)):=KeyOrd.kle_of_klt c
   by_cases hq:q > 0
   ·rw[if_pos hq]
    exact jd9 T f _ (m+1) 0 (hp.rev _ _) (by omega) (by omega) (j6y (j25 (by omega) he.2) hd h1 cl) (j6x (by omega)) fun p' r q' a b c d e=>h p' r q' a (by omega) (by omega) d e
   ·rw[if_neg hq]
    exact jd9 T f p (m+1) 0 hp (by omega) (by omega) (j6y (fun _=>rfl) hd h1 cl) (j6x (by omega)) fun p' r q' a b c d e=>h p' r q' a (by omega) (by omega) d e
  | false =>
   rw[if_neg (by decide)]
   show cmp (p.getD (m-1) 0) (p.getD m 0) (fun b s'=>(if b=true then KasT.ret (p,m,q) else kas_desc f p (m+1) (q+1)).kasWp cmp G s') s
   refine T.at hp (by omega) (by omega) ?_
   cases d:O.blt (kAt k p (m-1)) (kAt k p m) with
   | true=>exact h p m q hp (Nat.le_refl _) (by omega) hd he
   | false =>
    have eq:kAt k p m=kAt k p (m-1):=KeyOrd.kle_antisymm d c
    refine jd9 T f p (m+1) (q+1) hp (by omega) (by omega) (j6y (fun _=>rfl) hd h1 d) ⟨by have:=he.1;omega,fun i a b=>?_⟩ fun p' r q' a b c d e=>h p' r q' a (by omega) (by omega) d e
    rw[show m+1-1=m by omega]
    by_cases hi:i=m
    ·rw[hi]
    ·rw[eq];exact he.2 i (by omega) (by omega)
theorem jjg {p:Array Nat}{m:Nat} (hm:m≤p.size) (h:Dsc k p m):Asc k (kas_rev p 0 m) m:=by
 intro i j hij hj
 rw[jao hm,jao hm,if_pos (by omega),if_pos (by omega)]
 exact h _ _ (by omega) (by omega)
theorem jef (T:Tells k n cmp s) {p:Array Nat}{m:Nat} (hp:OkP n p) (h1:1≤m) (hm:m≤n) (hd:Dsc k p m) {G:Nat × Array Nat→Shared→Prop}
  (h:∀ r p',OkP n p'→1≤r→r≤n→Asc k p' r→G (r,p') s):(kas_tail3 m n p).kasWp cmp G s:=by
 unfold kas_tail3
 rw[KasT.kasWp_bind]
 exact jnz T (hp.rev _ _) _ m h1 (by omega) (jjg (by rw[hp.size];exact hm) hd) fun r a b c _=>h r _ (hp.rev _ _) (by omega) (by omega) c
theorem j5u (T:Tells k n cmp s) {p:Array Nat}{m:Nat} (hp:OkP n p) (hm:m+1≤n) (hd:Dsc k p (m+1)) {G:Nat × Array Nat→Shared→Prop}
  (h:∀ r p',OkP n p'→1≤r→r≤n→Asc k p' r→G (r,p') s):(kas_descPart m n p).kasWp cmp G s:=by
 unfold kas_descPart
 rw[KasT.kasWp_bind]
 refine jd9 T _ p (m+1) 0 hp (by omega) (by omega) hd (j6x (by omega)) fun p' r q' a b c d e=>?_
 have hs:=a.size
 by_cases hq:q' > 0
 ·show (if q' > 0 then kas_tail3 r n (kas_rev p' (r-(q'+1)) r) else kas_tail3 r n p').kasWp cmp G s
  rw[if_pos hq]
  refine jef T (a.rev _ _) (by omega) (by omega) (fun i j hij hj=>?_) h
  rw[j25 (by omega) e.2,j25 (by omega) e.2]
  exact d i j hij hj
 ·show (if q' > 0 then kas_tail3 r n (kas_rev p' (r-(q'+1)) r) else kas_tail3 r n p').kasWp cmp G s
  rw[if_neg hq]
  exact jef T a (by omega) (by omega) d h
theorem jjh (T:Tells k n cmp s) {p:Array Nat} (hp:OkP n p) (h0:1≤n) {G:Nat × Array Nat→Shared→Prop} (h:∀ r p',OkP n p'→1≤r→r≤n→Asc k p' r→G (r,p') s):(kas_count n p).kasWp cmp G s:=by
 have hsz:=hp.size
 unfold kas_count
 rw[KasT.kasWp_bind]
 refine jnz T hp _ 1 (Nat.le_refl _) (by omega) (fun i j hij hj=>by rw[show i=j by omega];exact KeyOrd.kle_refl _) fun m a b c e=>?_
 by_cases hm:m=n
 ·rw[if_pos (by simpa using hm)]
  exact h m p hp a (by omega) c
 ·rw[if_neg (by simpa using hm)]
  have lt:O.klt (kAt k p m) (kAt k p (m-1)):=e.resolve_left (by omega)
  by_cases h2:m > 1
  ·rw[if_pos h2]
   show cmp (p.getD 0 0) (p.getD (m-1) 0) (fun b s'=>(if b=true then KasT.ret (m,p) else kas_descPart m n (kas_rev p 0 m)).kasWp cmp G s') s
   refine T.at hp (by omega) (by omega) ?_
   cases d:O.blt (kAt k p 0) (kAt k p (m-1)) with
   | true=>exact h m p hp a (by omega) c
   | false =>
    rw[if_neg (by decide)]
    have all:∀ i,0≤i→i < m→kAt k p i=kAt k p (m-1):=fun i _ hi=>KeyOrd.kle_antisymm (c i (m-1) (by omega) (by omega)) (KeyOrd.kle_trans d (c 0 i (by omega) hi))
    refine j5u T (hp.rev _ _) (by omega) (fun i j hij hj=>?_) h
    rw[j25 (by omega) all,j25 (by omega) all]
    by_cases hj2:j < m
    ·rw[all i (by omega) (by omega),all j (by omega) hj2];exact KeyOrd.kle_refl _
    ·obtain rfl:j=m:=by omega
     by_cases hi:i=j
     ·rw[hi];exact KeyOrd.kle_refl _
     ·rw[all i (by omega) (by omega)];exact KeyOrd.kle_of_klt lt
  ·rw[if_neg h2]
   obtain rfl:m=1:=by omega
   refine j5u T hp (by omega) (fun i j hij hj=>?_) h
   by_cases hi:i=j
   ·rw[hi];exact KeyOrd.kle_refl _
   ·obtain rfl:i=0:=by omega
    obtain rfl:j=1:=by omega
    exact KeyOrd.kle_of_klt lt
theorem jap (T:Tells k n cmp s) {p:Array Nat} (hp:OkP n p) {a:Nat} (ha:a < n) (hs:Asc k p a) {G:Nat→Shared→Prop} (h:∀ l,l≤a→(∀ i,i < l→O.kle (kAt k p i) (kAt k p a))→(∀ i,l≤i→i < a→O.klt (kAt k p a) (kAt k p i))→G l s) :
  ∀ (f l r:Nat),l≤r→r≤a→r-l≤f→(∀ i,i < l→O.kle (kAt k p i) (kAt k p a))→(∀ i,r≤i→i < a→O.klt (kAt k p a) (kAt k p i))→(kas_place p a f l r).kasWp cmp G s
 | 0,l,r,hl,hr,hf,x,y=>h l (by omega) x (by rw[show l=r by omega];exact y)
 | f+1,l,r,hl,hr,hf,x,y=>by
  unfold kas_place
  by_cases hge:l≥r
  ·rw[if_pos hge]
   exact h l (by omega) x (by rw[show l=r by omega];exact y)
  ·rw[if_neg hge]
   show cmp (p.getD a 0) (p.getD ((l+r) / 2) 0) (fun b s'=>(if b=true then kas_place p a f l ((l+r) / 2) else kas_place p a f ((l+r) / 2+1) r).kasWp cmp G s') s
   refine T.at hp ha (by omega) ?_
   cases c:O.blt (kAt k p a) (kAt k p ((l+r) / 2)) with
   | true=>exact jap T hp ha hs h f l ((l+r) / 2) (by omega) (by omega) (by omega) x fun i u v=>KeyOrd.klt_of_klt_of_kle c (hs _ _ u v)
   | false=>exact jap T hp ha hs h f ((l+r) / 2+1) r (by omega) (by omega) (by omega) (fun i u=>KeyOrd.kle_trans (hs i ((l+r) / 2) (by omega) (by omega)) c) y
theorem t_bin (T:Tells k n cmp s) {G:Array Nat→Shared→Prop} (h:∀ p,OkP n p→Asc k p n→G p s):∀ (f:Nat) (p:Array Nat) (a:Nat),OkP n p→a+f=n→Asc k p a→(kas_bin f p a).kasWp cmp G s
 | 0,p,a,hp,ha,hs=>h p hp (by rw[← ha];exact hs)
 | f+1,p,a,hp,ha,hs=>by
  have hsz:=hp.size
  unfold kas_bin
  rw[KasT.kasWp_bind]
  refine jap T hp (by omega) hs (fun l hl x y=>?_) a 0 a (Nat.zero_le _) (Nat.le_refl _) (by omega) (fun i hi=>by omega) fun i u v=>by omega
  refine t_bin T h f _ (a+1) (hp.bub _ _) (by omega) fun i j hij hj=>?_
  rw[jee (by omega) (by omega),jee (by omega) (by omega),show a-(a-l)=l by omega]
  repeat' split
  all_goals first | (exfalso;omega) | exact KeyOrd.kle_refl _ | exact x _ (by omega) | exact KeyOrd.kle_of_klt (y _ (by omega) (by omega)) | exact hs _ _ (by omega) (by omega)
theorem t_sort (T:Tells k n cmp s) (h0:1≤n) {G:Array Nat→Shared→Prop} (h:∀ p,OkP n p→Asc k p n→G p s):(kas_sort n).kasWp cmp G s:=by
 unfold kas_sort
 rw[KasT.kasWp_bind]
 refine jjh T (List.Perm.refl _) h0 fun r p' a b c d=>?_
 show (if r < n then kas_bin (n-max r 1) p' (max r 1) else KasT.ret p').kasWp cmp G s
 rw[show max r 1=r by omega]
 by_cases hr:r < n
 ·rw[if_pos hr]
  exact t_bin T h _ p' r a (by omega) d
 ·rw[if_neg hr]
  obtain rfl:r=n:=by omega
  exact h p' a d
end
end L2
set_option Elab.async false
set_option linter.all false
set_option maxRecDepth 100000
set_option maxHeartbeats 4000000
namespace L2
open PySem PySem.Spec PyProof.Rows PySem.W
section
variable {prog:Program}{w:World}{A:Around}{E:Value→Shared→Prop}{s:Shared}{O:KeyOrd}{k:Nat→O.α}{a:Addr}{vs:List Value}
theorem jga {κ:SortKind}{n:Nat}{P:PySem.Fin→Shared→Prop} (ho:s.heap.get? a=some (seqObj "list" vs.toArray n)) (h64:vs.length < 64)
  (hkk:2≤vs.length→∀ h',(∀ b o,b≠a→s.heap.get? b=some o→h'.get? b=some o)→∀ Q:SortKind→Shared→Prop,Q κ { s with heap:=h' }→wpAny (model prog w) A (keyKind' vs.toArray) Q E { s with heap:=h' })
  (hT:∀ h',(∀ b o,b≠a→s.heap.get? b=some o→h'.get? b=some o)→Tells k vs.length (kas_ask prog w A κ vs) { s with heap:=h' })
  (h:∀ p:Array Nat,OkP vs.length p→Asc k p vs.length→P (.done (.ret .none)) { s with heap:=sortedHeap s.heap a vs (p.toList.map fun i=>vs.getD i .none).toArray }) :
  wpAny (model prog w) A (Builtin.«list.sort» ⟨[Value.ref a],[]⟩) P E s:=by
 have la:a < s.heap.objs.size:=Heap.lt_size ho
 have zl:vs.length≤sizeLine:=by rw[sizeLine_eq];omega
 rw[list_sort_plain]
 refine wpAny_bind (listItems_at ho rfl (wpAny_bind (listUpdate_at ho rfl ?_ (by rw[List.size_toArray];omega) (Nat.zero_le _))))
 obtain⟨e1,g1⟩:∃ e1,(s.heap.update a (Obj.mapSeq fun _=>#[])).get? a=some (seqObj "list" #[] e1):=⟨_,get?_update_seq ho (fun _=>#[])⟩
 refine wpAny_bind (seqEpoch_at g1 rfl (wpAny_bind (wpAny_newTuple (wpAny_bind (wpAny_newList (wpAny_holding ?_) (Nat.zero_le _))) zl)))
 have g6:(((s.heap.update a (Obj.mapSeq fun _=>#[])).push (seqObj "tuple" vs.toArray 0)).push (seqObj "list" #[] 0)).get? a=some (seqObj "list" #[] e1):=Heap.get?_push_of_some _ (Heap.get?_push_of_some _ g1)
 have kp:∀ b o,b≠a→s.heap.get? b=some o→(((s.heap.update a (Obj.mapSeq fun _=>#[])).push (seqObj "tuple" vs.toArray 0)).push (seqObj "list" #[] 0)).get? b=some o :=
  fun b o q e=>Heap.get?_push_of_some _ (Heap.get?_push_of_some _ ((Heap.get?_update_other _ _ (Ne.symm q)).trans e))
 skip;show wpAny (model prog w) A _ P E { s with heap:=((s.heap.update a (Obj.mapSeq fun _=>#[])).push (seqObj "tuple" vs.toArray 0)).push (seqObj "list" #[] 0) }
 dsimp only
 have sz:vs.toArray.size=vs.length:=List.size_toArray ..
 by_cases h2:(vs.toArray.size < 2)
 ·rw[if_pos h2,if_pos h2]
  refine wpAny_bind (wpAny_pure ?_)
  rw[StateT.run_pure]
  refine wpAny_bind (wpAny_pure ?_)
  have es:((vs.toArray.zip vs.toArray).map fun x=>x.2)=((List.range vs.length).toArray.toList.map fun i=>vs.getD i .none).toArray:=by
   apply Array.ext'
   refine List.ext_getElem? fun i=>?_
   by_cases hi:i < vs.length
   ·simp[hi]
   ·simp[hi]
  have q:=h (List.range vs.length).toArray (List.Perm.refl _) fun i j hij hj=>by rw[show i=j by omega];exact KeyOrd.kle_refl _
  rw[← es] at q
  refine wpAny_bind (seqEpoch_at g6 rfl (wpAny_bind (listUpdate_at g6 rfl ?_ (by simp) (by show ((vs.toArray.zip vs.toArray).map fun x=>x.2).size≤_;rw[Array.size_map,Array.size_zip];omega))))
  skip;simp only[bne_self_eq_false,Bool.false_eq_true,if_false]
  exact wpAny_pure q
 ·rw[if_neg h2,if_neg h2]
  refine wpAny_bind (hkk (by omega) _ kp _ ?_)
  refine wpAny_bind (wpAny_mono (kat_run (ks:=vs) (vs:=vs) (Q:=fun st' s'=>s'={ s with heap:=((s.heap.update a (Obj.mapSeq fun _=>#[])).push (seqObj "tuple" vs.toArray 0)).push (seqObj "list" #[] 0) }∧∃ p:Array Nat,arrOf st'=p.map (kas_item (vs.toArray.zip vs.toArray))∧failedOf st'=none∧OkP vs.length p∧Asc k p vs.length)
   rfl (by omega) h64 (fun p st' s' _ a2 a3 a4=>⟨a4.1,p,a2,a3,a4.2⟩) (t_sort (G:=fun p s'=>s'=_∧OkP vs.length p∧Asc k p vs.length) (hT _ kp) (by omega) fun p x y=>⟨rfl,x,y⟩)) ?_ fun _ _ e=>e)
  rintro⟨⟨⟩,st'⟩ s' ⟨rfl,p,har,hf,ok,as⟩
  have es:=kat_snds rfl har
  dsimp only
  refine wpAny_bind (seqEpoch_at g6 rfl (wpAny_bind (listUpdate_at g6 rfl ?_ (by simp) (by show ((arrOf st').map fun x=>x.2).size≤_;rw[es,List.size_toArray,List.length_map,Array.length_toList,ok.size];omega))))
  rw[hf]
  skip;simp only[bne_self_eq_false,Bool.false_eq_true,if_false]
  have q:=h p ok as
  rw[← es] at q
  exact wpAny_pure q
end
section
variable {prog:Program}{w:World}{A:Around}{E:Value→Shared→Prop}{s:Shared}
def RowsAt (h:Heap):List Value→List (List Int)→Prop
 | [],[]=>True
 | v :: vs,L :: Ls=>(∃ a its,v=.ref a∧IsTup h a its∧IntsAre its.toList L∧L≠[])∧RowsAt h vs Ls
 | _,_=>False
theorem RowsAt.kept {h h':Heap}{x:Addr}{zs:Array Value}{n:Nat} (hx:h.get? x=some (seqObj "list" zs n)) (e:∀ b o,b≠x→h.get? b=some o→h'.get? b=some o):∀ {vs:List Value}{Ls:List (List Int)},RowsAt h vs Ls→RowsAt h' vs Ls
 | [],[],_=>trivial
 | [],_ :: _,r=>r.elim
 | _ :: _,[],r=>r.elim
 | v :: vs,L :: Ls,⟨⟨a,its,e1,e2,e3,e4⟩,r⟩=>by
  refine⟨⟨a,its,e1,jj5 e2 fun o q=>e a o (fun z=>?_) q,e3,e4⟩,RowsAt.kept hx e r⟩
  subst z
  obtain⟨o,ho,hc,_⟩:=e2
  rw[hx] at ho
  cases ho
  exact absurd (show Value.type "list"=Value.type "tuple" from hc) (by decide)
theorem RowsAt.get {h:Heap}:∀ {vs:List Value}{Ls:List (List Int)}{i:Nat},RowsAt h vs Ls→i < vs.length→∃ a its,vs.getD i .none=.ref a∧IsTup h a its∧IntsAre its.toList (Ls.getD i [])
 | [],[],i,_,hi=>by simp at hi
 | [],_ :: _,_,r,_=>r.elim
 | _ :: _,[],_,r,_=>r.elim
 | v :: vs,L :: Ls,0,⟨⟨a,its,e1,e2,e3,e4⟩,r⟩,_=>⟨a,its,e1,e2,e3⟩
 | v :: vs,L :: Ls,i+1,⟨_,r⟩,hi=>by
  obtain⟨a,its,e1,e2,e3⟩:=RowsAt.get (i:=i) r (by simpa using hi)
  exact⟨a,its,by simpa using e1,e2,by simpa using e3⟩
end
def Ris (xs:Array Nat):Prop:=xs.toList.Pairwise (· < ·)
structure Low (xs:Array Nat) (j r:Nat):Prop where
 le:r≤xs.size
 lo:∀ i,i < r→xs.getD i 0 < j
 hi:∀ i,r≤i→i < xs.size→j≤xs.getD i 0
theorem j1r {xs:Array Nat}{i d:Nat} (h:i < xs.size):xs.getD i d=xs[i]:=by simp[Array.getD,h]
theorem Ris.lt {xs:Array Nat} (h:Ris xs) {i k:Nat} (a:i < k) (b:k < xs.size):xs.getD i 0 < xs.getD k 0:=by
 rw[j1r (by omega),j1r b]
 have:=List.pairwise_iff_getElem.mp h i k (by rw[Array.length_toList];omega) (by rw[Array.length_toList];exact b) a
 simpa using this
theorem Low.uniq {xs:Array Nat}{j r r':Nat} (a:Low xs j r) (b:Low xs j r'):r=r':=by
 rcases Nat.lt_trichotomy r r' with h | h | h
 ·have x:=a.hi r (Nat.le_refl _) (by have:=b.le;omega)
  have y:=b.lo r h
  omega
 ·exact h
 ·have x:=b.hi r' (Nat.le_refl _) (by have:=a.le;omega)
  have y:=a.lo r' h
  omega
theorem jgb {xs:Array Nat}{j:Nat} (hr:Ris xs):∀ (fuel lo hi:Nat),lo≤hi→hi≤xs.size→hi-lo≤fuel→(∀ i,i < lo→xs.getD i 0 < j)→(∀ i,hi≤i→i < xs.size→j≤xs.getD i 0)→Low xs j (SetTable.below.go xs j fuel lo hi)
 | 0,lo,hi,a,b,c,d,e=>⟨by show lo≤_;omega,d,by show ∀ i,lo≤i→_;rw[show lo=hi by omega];exact e⟩
 | fuel+1,lo,hi,a,b,c,d,e=>by
  unfold SetTable.below.go
  by_cases h:lo < hi
  ·rw[if_pos h]
   have hm:(lo+hi) / 2 < xs.size:=by omega
   dsimp only
   rw[j1r hm]
   have em:xs.getD ((lo+hi) / 2) 0=xs[(lo+hi) / 2]:=j1r hm
   by_cases q:xs[(lo+hi) / 2] < j
   ·rw[if_pos q]
    refine jgb hr fuel _ hi (by omega) b (by omega) (fun i hi'=>?_) e
    by_cases z:i=(lo+hi) / 2
    ·rw[z,em];exact q
    ·have:=hr.lt (show i < (lo+hi) / 2 by omega) hm;omega
   ·rw[if_neg q]
    refine jgb hr fuel lo _ (by omega) (by omega) (by omega) d fun i x y=>?_
    by_cases z:i=(lo+hi) / 2
    ·rw[z,em];omega
    ·have:=hr.lt (show (lo+hi) / 2 < i by omega) y;omega
  ·rw[if_neg h]
   exact⟨by omega,d,by rw[show lo=hi by omega];exact e⟩
theorem j2u {xs:Array Nat} (hr:Ris xs) (j:Nat):Low xs j (SetTable.below xs j):=jgb hr xs.size 0 xs.size (Nat.zero_le _) (Nat.le_refl _) (by omega) (fun i h=>by omega) fun i a b=>by omega
theorem j4r {xs:Array Nat} (hr:Ris xs) (j:Nat):xs[SetTable.below xs j]?=some j↔j∈xs.toList:=by
 have L:=j2u hr j
 constructor
 ·intro h
  exact List.mem_of_getElem? (by rw[Array.getElem?_toList];exact h)
 ·intro h
  obtain⟨i,hi,e⟩:=List.getElem_of_mem h
  rw[Array.length_toList] at hi
  have e':xs.getD i 0=j:=by rw[j1r hi];simpa using e
  have:SetTable.below xs j=i:=by
   refine L.uniq ⟨by omega,fun k hk=>?_,fun k a b=>?_⟩
   ·have:=hr.lt hk hi;omega
   ·by_cases z:k=i
    ·rw[z];omega
    ·have:=hr.lt (show i < k by omega) b;omega
  rw[this,Array.getElem?_eq_getElem hi]
  simpa using e
theorem j1o {α:Type} (xs:Array α) (p:Nat) (x:α):(SetTable.insertAt xs p x).toList=xs.toList.take p++x :: xs.toList.drop p:=by
 unfold SetTable.insertAt
 simp
 skip;exact List.take_of_length_le (by simp)
theorem jgc {xs:Array Nat}{j p:Nat} (L:Low xs j p):∀ y∈xs.toList.take p,y < j:=by
 intro y hy
 obtain⟨i,hi,e⟩:=List.getElem_of_mem hy
 rw[List.length_take] at hi
 have:=L.lo i (by omega)
 rw[j1r (by rw[Array.length_toList] at hi;omega)] at this
 rw[← e]
 simpa using this
theorem jgd {xs:Array Nat}{j p:Nat} (L:Low xs j p):∀ y∈xs.toList.drop p,j≤y:=by
 intro y hy
 obtain⟨i,hi,e⟩:=List.getElem_of_mem hy
 rw[List.length_drop,Array.length_toList] at hi
 have:=L.hi (p+i) (by omega) (by omega)
 rw[j1r (by omega)] at this
 rw[← e]
 simpa using this
theorem jaq {xs:Array Nat}{j p:Nat} (h:Ris xs) (L:Low xs j p) (hn:j∉xs.toList):Ris (SetTable.insertAt xs p j):=by
 unfold Ris at h ⊢
 rw[j1o]
 have hp:=h
 rw[← List.take_append_drop p xs.toList] at hp
 obtain⟨h1,h2,h3⟩:=List.pairwise_append.mp hp
 have gt:∀ y∈xs.toList.drop p,j < y:=fun y hy=>by
  have:=jgd L y hy
  have:j≠y:=fun e=>hn (by rw[e];exact List.mem_of_mem_drop hy)
  omega
 refine List.pairwise_append.mpr ⟨h1,List.pairwise_cons.mpr ⟨gt,h2⟩,fun x hx y hy=>?_⟩
 skip;rcases List.mem_cons.mp hy with rfl | hy
 ·exact jgc L x hx
 ·exact h3 x hx y hy
theorem jar {t:SetTable} (hd:t.dummies=#[]) (hr:Ris t.place) (j:Nat):t.slot j=if j∈t.place.toList then .live (SetTable.below t.place j) else .empty:=by
 unfold SetTable.slot
 dsimp only
 rw[hd]
 by_cases h:j∈t.place.toList
 ·rw[if_pos h,(j4r hr j).mpr h,if_pos (by simp)]
 ·rw[if_neg h,if_neg (by rw[beq_iff_eq,j4r hr];exact h),if_neg (by unfold SetTable.has;simp)]
theorem jge {t:SetTable}{n:Nat} (hf:t.fits n=true) (hp:t.plain=true) (hr:Ris t.place) (hn:t.place.size=n):Rise t n fun i=>if i=0 then 0 else t.place.getD (i-1) 0+1:=by
 refine⟨hf,hp,rfl,fun i hi=>?_,fun i hi=>⟨t.place[i],Array.getElem?_eq_getElem (by omega),?_⟩⟩
 ·refine (j2u hr _).uniq ⟨by omega,fun k hk=>?_,fun k a b=>?_⟩
  ·rw[if_neg (by omega)]
   by_cases z:k=i-1
   ·rw[z];omega
   ·have:=hr.lt (show k < i-1 by omega) (by omega);omega
  ·by_cases z:i=0
   ·rw[if_pos z];omega
   ·rw[if_neg z]
    have:=hr.lt (show i-1 < k by omega) b
    omega
 ·rw[if_neg (by omega),Nat.add_sub_cancel,j1r (by omega)]
def adv (m:Nat) (p:SetTable.Probe):SetTable.Probe :=
 if p.more > 0 then { p with more:=p.more-1,j:=p.j+1 } else
 { p with j:=(SetTable.leap m p.i p.perturb).1,more:=SetTable.runEnd m (SetTable.leap m p.i p.perturb).1-(SetTable.leap m p.i p.perturb).1,i:=(SetTable.leap m p.i p.perturb).1,perturb:=(SetTable.leap m p.i p.perturb).2 }
def st0 (m:Nat) (h:Int):SetTable.Probe:={ j:=SetTable.bits h % (m+1),more:=SetTable.runEnd m (SetTable.bits h % (m+1))-SetTable.bits h % (m+1),i:=SetTable.bits h % (m+1),perturb:=SetTable.bits h,dummy:=none }
def pth (m:Nat) (h:Int):Nat→SetTable.Probe
 | 0=>st0 m h
 | n+1=>adv m (pth m h n)
theorem j81 (m:Nat) (h:Int):∀ n,(pth m h n).dummy=none
 | 0=>rfl
 | n+1=>by
  show (adv m (pth m h n)).dummy=none
  unfold adv
  split <;> exact j81 m h n
theorem j82 {m:Nat}{h:Int}{n:Nat}{p:SetTable.Probe} (e:pth m h n=p):∀ c,c≤p.more→pth m h (n+c)={ p with j:=p.j+c,more:=p.more-c }
 | 0,_=>e
 | c+1,hc=>by
  show adv m (pth m h (n+c))=_
  rw[j82 e c (by omega)]
  unfold adv
  rw[if_pos (show p.more-c > 0 by omega)]
  congr 1 <;> omega
def lp (m:Nat) (h:Int):Nat→Nat × Nat
 | 0=>(SetTable.bits h % (m+1),SetTable.bits h)
 | L+1=>SetTable.leap m (lp m h L).1 (lp m h L).2
theorem run_le (m i:Nat):SetTable.runEnd m i-i≤9:=by unfold SetTable.runEnd;split <;> omega
theorem jji (m:Nat) (h:Int):∀ L,∃ n,n≤10 * L∧pth m h n={ j:=(lp m h L).1,more:=SetTable.runEnd m (lp m h L).1-(lp m h L).1,i:=(lp m h L).1,perturb:=(lp m h L).2,dummy:=none }
 | 0=>⟨0,Nat.le_refl _,rfl⟩
 | L+1=>by
  obtain⟨n,hn,e⟩:=jji m h L
  have r:=run_le m (lp m h L).1
  refine⟨n+(SetTable.runEnd m (lp m h L).1-(lp m h L).1)+1,by omega,?_⟩
  show adv m (pth m h (n+_))=_
  rw[j82 e _ (Nat.le_refl _)]
  unfold adv
  rw[if_neg (by simp)]
  rfl
theorem jeg (m:Nat) (h:Int):∀ L,(lp m h L).2=SetTable.bits h / 32 ^ L
 | 0=>by show SetTable.bits h=_;simp
 | L+1=>by
  show (lp m h L).2 / 32=_
  rw[jeg m h L,Nat.div_div_eq_div_mul,Nat.pow_succ]
theorem jjj (h:Int):SetTable.bits h < 2 ^ 64:=by unfold SetTable.bits;omega
theorem jjk (m:Nat) (h:Int) (L:Nat) (hL:13≤L):(lp m h L).2=0:=by
 rw[jeg]
 refine Nat.div_eq_of_lt (Nat.lt_of_lt_of_le (jjj h) ?_)
 exact Nat.le_trans (by decide) (Nat.pow_le_pow_right (by decide) hL)
def cyc (m:Nat):Nat→Nat→Nat
 | 0,x=>x
 | d+1,x=>(cyc m d x * 5+1) % (m+1)
theorem jgf (m:Nat) (h:Int):∀ d,(lp m h (13+d)).1=cyc m d (lp m h 13).1
 | 0=>rfl
 | d+1=>by
  show ((lp m h (13+d)).1 * 5+1+(lp m h (13+d)).2 / 32) % (m+1)=_
  rw[jjk m h _ (by omega),jgf m h d]
  rfl
theorem cyc7:∀ x,x < 8→∀ e,e < 8→∃ d,d < 8∧cyc 7 d x=e:=by decide +kernel
theorem cyc31:∀ x,x < 32→∀ e,e < 32→∃ d,d < 32∧cyc 31 d x=e:=by decide +kernel
theorem lp_lt (m:Nat) (h:Int):∀ L,(lp m h L).1 < m+1
 | 0=>Nat.mod_lt _ (Nat.succ_pos _)
 | L+1=>Nat.mod_lt _ (Nat.succ_pos _)
theorem meets {m:Nat} (hm:m=7∨m=31) (h:Int) {e:Nat} (he:e≤m):∃ n,n < 10 * (m+14)∧(pth m h n).j=e:=by
 have l:=lp_lt m h 13
 obtain⟨d,hd,hc⟩:∃ d,d < m+1∧cyc m d (lp m h 13).1=e:=by
  rcases hm with rfl | rfl
  ·exact cyc7 _ l _ (by omega)
  ·exact cyc31 _ l _ (by omega)
 obtain⟨n,hn,q⟩:=jji m h (13+d)
 exact⟨n,by omega,by rw[q];show (lp m h (13+d)).1=e;rw[jgf,hc]⟩
structure Tab (t:SetTable) (es:Array (Int × Value)):Prop where
 mask:t.mask=7∨t.mask=31
 dum:t.dummies=#[]
 ris:Ris t.place
 size:t.place.size=es.size
 room:es.size * 5 < t.mask * 3
 top:∀ j∈t.place.toList,j≤t.mask
 way:∀ (i:Nat) (hi:i < es.size),∃ N,(pth t.mask es[i].1 N).j=t.place.getD i 0∧∀ m,m < N→(pth t.mask es[i].1 m).j∈t.place.toList
theorem Tab.fits {t:SetTable}{es:Array (Int × Value)} (T:Tab t es):t.fits es.size=true:=by
 unfold SetTable.fits SetTable.fill
 rw[T.dum,T.size]
 have:=T.room
 simp
 omega
theorem Tab.gave {t:SetTable}{es:Array (Int × Value)} (T:Tab t es):t.gaveWay=false:=by
 unfold SetTable.gaveWay
 rcases T.mask with h | h <;> rw[h] <;> rfl
theorem jas:∀ (n:Nat) (l:List Nat),(∀ e,e < n→e∈l)→n≤l.length
 | 0,l,_=>Nat.zero_le _
 | n+1,l,h=>by
  have hn:=h n (Nat.lt_succ_self _)
  have:=jas n (l.erase n) fun e he=>(List.mem_erase_of_ne (by omega)).mpr (h e (by omega))
  rw[List.length_erase_of_mem hn] at this
  have:=List.length_pos_of_mem hn
  omega
theorem Tab.free {t:SetTable}{es:Array (Int × Value)} (T:Tab t es):∃ e,e≤t.mask∧e∉t.place.toList:=by
 refine Classical.byContradiction fun h=>?_
 have all:∀ e,e≤t.mask→e∈t.place.toList:=fun e he=>Classical.byContradiction fun q=>h ⟨e,he,q⟩
 have:=jas (t.mask+1) t.place.toList fun e he=>all e (by omega)
 rw[Array.length_toList,T.size] at this
 have:=T.room
 omega
theorem jeh {m i:Nat} (h:i≤m):i+(SetTable.runEnd m i-i)≤m:=by unfold SetTable.runEnd;split <;> omega
theorem j83 (m:Nat) (h:Int):∀ n,(pth m h n).j+(pth m h n).more≤m
 | 0=>jeh (Nat.le_of_lt_succ (Nat.mod_lt _ (Nat.succ_pos _)))
 | n+1=>by
  have ih:=j83 m h n
  show (adv m (pth m h n)).j+(adv m (pth m h n)).more≤m
  unfold adv
  split
  ·dsimp only;omega
  ·exact jeh (Nat.le_of_lt_succ (Nat.mod_lt _ (Nat.succ_pos _)))
theorem jei {t:SetTable} (hd:t.dummies=#[]) (hr:Ris t.place) (f:Nat→Int) (h:Int):∀ (fuel m:Nat),(∃ N,m≤N∧N < m+fuel∧(pth t.mask h N).j∉t.place.toList) →
  ∃ r,m≤r∧(∀ q,m≤q→q < r→(pth t.mask h q).j∈t.place.toList∧f (SetTable.below t.place (pth t.mask h q).j)≠h) ∧
   (((pth t.mask h r).j∉t.place.toList∧SetTable.probe.go t f h fuel (pth t.mask h m)=some (.empty (pth t.mask h r).j none)) ∨
     ((pth t.mask h r).j∈t.place.toList∧f (SetTable.below t.place (pth t.mask h r).j)=h∧SetTable.probe.go t f h fuel (pth t.mask h m)=some (.candidate (pth t.mask h r).j (SetTable.below t.place (pth t.mask h r).j) (pth t.mask h (r+1)))))
 | 0,m,⟨N,a,b,_⟩=>by omega
 | fuel+1,m,⟨N,a,b,c⟩=>by
  unfold SetTable.probe.go
  rw[jar hd hr]
  by_cases hm:(pth t.mask h m).j∈t.place.toList
  ·rw[if_pos hm]
   dsimp only
   by_cases hf:f (SetTable.below t.place (pth t.mask h m).j)=h
   ·refine⟨m,Nat.le_refl _,fun q x y=>by omega,.inr ⟨hm,hf,?_⟩⟩
    rw[if_pos (by rw[hf];simp)]
    rfl
   ·rw[if_neg (by simpa using hf)]
    have hne:m≠N:=fun z=>c (by rw[← z];exact hm)
    obtain⟨r,r1,r2,r3⟩:=jei hd hr f h fuel (m+1) ⟨N,by omega,by omega,c⟩
    refine⟨r,by omega,fun q x y=>?_,r3⟩
    by_cases z:q=m
    ·rw[z];exact⟨hm,hf⟩
    ·exact r2 q (by omega) y
  ·rw[if_neg hm]
   refine⟨m,Nat.le_refl _,fun q x y=>by omega,.inl ⟨hm,?_⟩⟩
   dsimp only
   rw[j81]
section
variable {prog:Program}{w:World}{A:Around}{E:Value→Shared→Prop}{s:Shared}
structure Asks (prog:Program) (w:World) (A:Around) (E:Value→Shared→Prop) (s:Shared) (es:Array (Int × Value)) (x:Value) (hash:Int) {K:Type} [DecidableEq K] (key:Nat→K) (k:K):Prop where
 hsh:∀ (i:Nat) (hi:i < es.size),key i=k→es[i].1=hash
 eq:∀ (i:Nat) (hi:i < es.size) (Q:Bool→Shared→Prop),Q (decide (key i=k)) s→wpAny (model prog w) A (eqBool es[i].2 x) Q E s
 ref:∀ (i:Nat) (hi:i < es.size),∃ a,es[i].2=.ref a
 seen:∀ (l:List Value),(∀ y∈l,∃ (i:Nat) (hi:i < es.size),y=es[i].2)→∀ Q:Bool→Shared→Prop,Q false s→wpAny (model prog w) A (searchCouldBeSeen x l) Q E s
theorem j4s {S:Addr}{es:Array (Int × Value)}{ep:Nat}{t:SetTable}{x:Value}{hash:Int}{K:Type} [DecidableEq K] {key:Nat→K}{k:K}{Q:SetFound→Shared→Prop} (hS:s.heap.get? S=some (stObj es ep t)) (T:Tab t es) (H:Asks prog w A E s es x hash key k)
  (h1:(∃ i,i < es.size∧key i=k)→Q (.there none) s)
  (h2:(∀ i,i < es.size→key i≠k)→∀ r,(pth t.mask hash r).j∉t.place.toList→(pth t.mask hash r).j≤t.mask→(∀ q,q < r→(pth t.mask hash q).j∈t.place.toList)→Q (.free (pth t.mask hash r).j false) s) :
  ∀ (fuel m:Nat),(∃ N,m≤N∧N < 10 * (t.mask+14)∧N < m+fuel∧(pth t.mask hash N).j∉t.place.toList) →
   (∀ q,q < m→(pth t.mask hash q).j∈t.place.toList∧key (SetTable.below t.place (pth t.mask hash q).j)≠k) →
   ∀ stand,(stand=some (pth t.mask hash m)∨(m=0∧stand=none))→wpAny (model prog w) A (setSearchFrom S x hash true fuel stand) Q E s
 | 0,m,⟨N,a,b,c,d⟩,_,_,_=>by omega
 | fuel+1,m,⟨N,a,b,c,d⟩,hb,stand,hst=>by
  have hmem:=fun j=>j4r T.ris j
  unfold setSearchFrom
  refine wpAny_bind (wpAny_setState_of hS rfl T.fits ?_)
  dsimp only
  rw[T.gave,if_neg (by decide)]
  have est:stand.getD (t.probeStart hash)=pth t.mask hash m:=by
   rcases hst with e | ⟨rfl,e⟩ <;> rw[e] <;> rfl
  rw[est]
  have hfu:10 * SetTable.turns t.mask=10 * (t.mask+15):=rfl
  obtain⟨r,r1,r2,r3⟩:=jei T.dum T.ris (fun i=>(es[i]?.map (·.1)).getD 0) hash (10 * SetTable.turns t.mask) m ⟨N,a,by rw[hfu];omega,d⟩
  have at_:∀ j,j∈t.place.toList→∃ hi:SetTable.below t.place j < es.size,t.place.getD (SetTable.below t.place j) 0=j:=fun j hj=>by
   have e:=(hmem j).mpr hj
   obtain⟨hi,e'⟩:=Array.getElem?_eq_some_iff.mp e
   exact⟨by rw[← T.size];exact hi,by rw[j1r hi];exact e'⟩
  have all:∀ q,q < r→(pth t.mask hash q).j∈t.place.toList∧key (SetTable.below t.place (pth t.mask hash q).j)≠k:=fun q hq=>by
   by_cases z:q < m
   ·exact hb q z
   ·obtain⟨x1,x2⟩:=r2 q (by omega) hq
    obtain⟨hi,_⟩:=at_ _ x1
    refine⟨x1,fun z=>x2 ?_⟩
    show (es[SetTable.below t.place (pth t.mask hash q).j]?.map (·.1)).getD 0=hash
    rw[Array.getElem?_eq_getElem hi]
    exact H.hsh _ hi z
  rcases r3 with⟨n1,n2⟩ | ⟨n1,n2,n3⟩
  ·have pe:∀ g:Nat→Int,(∀ i,g i=(es[i]?.map (·.1)).getD 0)→t.probe g hash (pth t.mask hash m)=some (.empty (pth t.mask hash r).j none):=fun g hg=>by rw[show g=_ from funext hg];exact n2
   rw[pe]
   rotate_left
   ·exact fun _=>rfl
   dsimp only
   refine wpAny_pure (h2 (fun i hi e=>?_) r n1 ?_ fun q hq=>(all q hq).1)
   ·obtain⟨N',w1,w2⟩:=T.way i hi
    rw[H.hsh i hi e] at w1 w2
    have hin:t.place.getD i 0∈t.place.toList:=by
     rw[j1r (by rw[T.size];exact hi)]
     simp
    have:N' < r:=by
     rcases Nat.lt_trichotomy N' r with z | z | z
     ·exact z
     ·exact absurd (by rw[← z,w1];exact hin) n1
     ·exact absurd (w2 r z) n1
    obtain⟨y1,y2⟩:=all N' this
    rw[w1] at y1 y2
    refine y2 ?_
    have:SetTable.below t.place (t.place.getD i 0)=i:=by
     refine (j2u T.ris _).uniq ⟨by rw[T.size];omega,fun k hk=>T.ris.lt hk (by rw[T.size];exact hi),fun k a b=>?_⟩
     by_cases z:k=i
     ·rw[z];exact Nat.le_refl _
     ·exact Nat.le_of_lt (T.ris.lt (by omega) b)
    rw[this]
    exact e
   ·have:=j83 t.mask hash r;omega
  ·have pe:∀ g:Nat→Int,(∀ i,g i=(es[i]?.map (·.1)).getD 0)→t.probe g hash (pth t.mask hash m)=some (.candidate (pth t.mask hash r).j (SetTable.below t.place (pth t.mask hash r).j) (pth t.mask hash (r+1))):=fun g hg=>by rw[show g=_ from funext hg];exact n3
   rw[pe]
   rotate_left
   ·exact fun _=>rfl
   dsimp only
   obtain⟨hi,ei⟩:=at_ _ n1
   obtain⟨ya,hya⟩:=H.ref _ hi
   have sm:t.sameMemory t.moves t.mask=some true:=by unfold SetTable.sameMemory;rw[if_pos (by simp)]
   have hrN2:r < N:=by
    rcases Nat.lt_trichotomy r N with z | z | z
    ·exact z
    ·exact absurd (by rw[← z];exact n1) d
    ·exact absurd (all N z).1 d
   by_cases hl:t.led=true
   ·rw[hl,if_neg (by decide)]
    rw[Array.getElem?_eq_getElem hi]
    dsimp only
    refine wpAny_bind (wpAny_holding (H.eq _ hi _ ?_))
    refine wpAny_bind (wpAny_setState_of hS rfl T.fits ?_)
    by_cases e:key (SetTable.below t.place (pth t.mask hash r).j)=k
    ·rw[decide_eq_true e]
     exact wpAny_pure (h1 ⟨_,hi,e⟩)
    ·rw[decide_eq_false e]
     dsimp only
     rw[if_neg (by decide),sm]
     dsimp only
     rw[if_pos rfl,jar T.dum T.ris,if_pos n1]
     dsimp only
     rw[Array.getElem?_eq_getElem hi]
     dsimp only
     rw[hya]
     refine wpAny_bind (wpAny_isSame_ref_self (wpAny_bind (wpAny_pure ?_)))
     rw[if_pos rfl]
     dsimp only
     rw[if_neg (by decide)]
     refine j4s hS T H h1 h2 fuel (r+1) ⟨N,by omega,b,by omega,d⟩ (fun q hq=>?_) _ (.inl rfl)
     by_cases z:q=r
     ·rw[z];exact⟨n1,e⟩
     ·exact all q (by omega)
   ·rw[Bool.not_eq_true] at hl
    rw[hl,if_pos (by decide)]
    refine wpAny_bind (H.seen _ (fun y hy=>?_) _ ?_)
    ·obtain⟨p,hp,rfl⟩:=List.mem_map.mp hy
     rw[Array.toList_filter] at hp
     obtain⟨i,hi,e⟩:=List.getElem_of_mem (List.mem_filter.mp hp).1
     rw[Array.length_toList] at hi
     exact⟨i,hi,by rw[← e];simp⟩
    rw[if_neg (by decide)]
    rw[Array.getElem?_eq_getElem hi]
    dsimp only
    refine wpAny_bind (wpAny_holding (H.eq _ hi _ ?_))
    refine wpAny_bind (wpAny_setState_of hS rfl T.fits ?_)
    by_cases e:key (SetTable.below t.place (pth t.mask hash r).j)=k
    ·rw[decide_eq_true e]
     exact wpAny_pure (h1 ⟨_,hi,e⟩)
    ·rw[decide_eq_false e]
     dsimp only
     rw[if_neg (by decide),sm]
     dsimp only
     rw[if_pos rfl,jar T.dum T.ris,if_pos n1]
     dsimp only
     rw[Array.getElem?_eq_getElem hi]
     dsimp only
     rw[hya]
     refine wpAny_bind (wpAny_isSame_ref_self (wpAny_bind (wpAny_pure ?_)))
     rw[if_pos rfl]
     dsimp only
     rw[if_neg (by decide)]
     refine j4s hS T H h1 h2 fuel (r+1) ⟨N,by omega,b,by omega,d⟩ (fun q hq=>?_) _ (.inl rfl)
     by_cases z:q=r
     ·rw[z];exact⟨n1,e⟩
     ·exact all q (by omega)
end
abbrev OwnA:=Array (Option Nat)
theorem j84 {m:Nat}{h:Int}{ow:OwnA}:∀ (fuel L n:Nat),pth m h n={ j:=(lp m h L).1,more:=SetTable.runEnd m (lp m h L).1-(lp m h L).1,i:=(lp m h L).1,perturb:=(lp m h L).2,dummy:=none } →
  (∃ L',L≤L'∧L' < L+fuel∧(ow.getD (lp m h L').1 (some 0)).isNone=true)→(∀ q,q < n→(ow.getD (pth m h q).j (some 0)).isNone=false) →
  ∃ N,SetTable.layClean.free m ow fuel (lp m h L).1 (lp m h L).2=some (pth m h N).j∧(ow.getD (pth m h N).j (some 0)).isNone=true∧∀ q,q < N→(ow.getD (pth m h q).j (some 0)).isNone=false
 | 0,L,n,_,⟨L',a,b,_⟩,_=>by omega
 | fuel+1,L,n,hn,⟨L',a,b,c⟩,hq=>by
  unfold SetTable.layClean.free
  have hrun:SetTable.runEnd m (lp m h L).1+1-(lp m h L).1=(SetTable.runEnd m (lp m h L).1-(lp m h L).1)+1:=by
   have:(lp m h L).1≤SetTable.runEnd m (lp m h L).1:=by unfold SetTable.runEnd;split <;> omega
   omega
  have pj:∀ k,k≤SetTable.runEnd m (lp m h L).1-(lp m h L).1→(pth m h (n+k)).j=(lp m h L).1+k:=fun k hk=>by rw[j82 hn k hk]
  cases hf:(List.range (SetTable.runEnd m (lp m h L).1+1-(lp m h L).1)).find? fun k=>(ow.getD ((lp m h L).1+k) (some 0)).isNone with
  | some k =>
   obtain⟨f1,as,bs,f2,f3⟩:=List.find?_eq_some_iff_append.mp hf
   have hk:k < SetTable.runEnd m (lp m h L).1+1-(lp m h L).1:=List.mem_range.mp (by rw[f2];simp)
   refine⟨n+k,by rw[pj k (by omega)],by rw[pj k (by omega)];exact f1,fun q hq'=>?_⟩
   by_cases z:q < n
   ·exact hq q z
   ·obtain⟨c',rfl⟩:∃ c',q=n+c':=⟨q-n,by omega⟩
    rw[pj c' (by omega)]
    have hc':c'∈as:=by
     have hlen:as.length=k:=by
      have e:=congrArg (fun l=>l[as.length]?) f2
      simp at e
      have:=(List.getElem?_range (n:=SetTable.runEnd m (lp m h L).1+1-(lp m h L).1) (i:=as.length))
      by_cases w:as.length < SetTable.runEnd m (lp m h L).1+1-(lp m h L).1
      ·rw[List.getElem?_range w] at e;simpa using e
      ·rw[List.getElem?_eq_none (by simpa using w)] at e;simp at e
     have e:=congrArg (fun l=>l[c']?) f2
     rw[List.getElem?_range (by omega),List.getElem?_append_left (by omega)] at e
     exact List.mem_of_getElem? e.symm
    simpa using f3 c' hc'
  | none =>
   have no:=List.find?_eq_none.mp hf
   have run:∀ k,k≤SetTable.runEnd m (lp m h L).1-(lp m h L).1→(ow.getD ((lp m h L).1+k) (some 0)).isNone=false:=fun k hk=>by
    have:=no k (List.mem_range.mpr (by omega))
    cases q:(ow.getD ((lp m h L).1+k) (some 0)).isNone with
    | false=>rfl
    | true=>exact absurd q this
   have hL:L≠L':=fun z=>by
    have:=run 0 (Nat.zero_le _)
    rw[Nat.add_zero,z,c] at this
    cases this
   refine j84 fuel (L+1) (n+(SetTable.runEnd m (lp m h L).1-(lp m h L).1)+1) ?_ ⟨L',by omega,by omega,c⟩ fun q hq'=>?_
   ·show adv m (pth m h (n+_))=_
    rw[j82 hn _ (Nat.le_refl _)]
    unfold adv
    rw[if_neg (by simp)]
    rfl
   ·by_cases z:q < n
    ·exact hq q z
    ·obtain⟨c',rfl⟩:∃ c',q=n+c':=⟨q-n,by omega⟩
     rw[pj c' (by omega)]
     exact run c' (by omega)
theorem jat:∀ (l:List (Option Nat)) (j k:Nat),l[j]?=some none→((l.set j (some k)).filterMap id).Perm (k :: l.filterMap id)
 | [],j,k,h=>by simp at h
 | a :: l,0,k,h=>by
  simp at h
  subst h
  exact List.Perm.refl _
 | a :: l,j+1,k,h=>by
  have ih:=jat l j k (by simpa using h)
  cases a with
  | none=>exact ih
  | some x=>exact (ih.cons x).trans (List.Perm.swap _ _ _)
structure LaidT (m:Nat) (hs:List Int) (ow:OwnA):Prop where
 size:ow.size=m+1
 perm:(ow.toList.filterMap id).Perm (List.range hs.length)
 way:∀ j i,ow[j]?=some (some i)→∃ h,hs[i]?=some h∧∃ N,(pth m h N).j=j∧∀ q,q < N→(ow.getD (pth m h q).j (some 0)).isNone=false
theorem jgg (m:Nat):LaidT m [] (Array.replicate (m+1) none):=by
 refine⟨by simp,?_,fun j i h=>?_⟩
 ·have:((Array.replicate (m+1) (none:Option Nat)).toList.filterMap id)=[]:=by
   rw[List.filterMap_eq_nil_iff]
   intro x hx
   simp at hx
   exact hx
  rw[this]
  exact List.Perm.refl _
 ·rw[Array.getElem?_replicate] at h
  split at h <;> cases h
theorem jgh {m:Nat}{hs:List Int}{ow:OwnA} (H:LaidT m hs ow) (hl:hs.length≤m):∃ e,e≤m∧ow[e]?=some none:=by
 refine Classical.byContradiction fun h=>?_
 have hz:=H.size
 have all:∀ e,e≤m→∃ i,ow[e]?=some (some i):=fun e he=>by
  rw[Array.getElem?_eq_getElem (by omega)]
  cases q:ow[e]'(by omega) with
  | none=>exact absurd ⟨e,he,by rw[Array.getElem?_eq_getElem (by omega),q]⟩ h
  | some i=>exact⟨i,rfl⟩
 have:(ow.toList.filterMap id).length=ow.toList.length:=by
  rw[List.length_filterMap_eq_countP,List.countP_eq_length]
  intro x hx
  obtain⟨e,he,q⟩:=List.getElem_of_mem hx
  rw[Array.length_toList] at he
  obtain⟨i,hi⟩:=all e (by omega)
  rw[Array.getElem?_eq_getElem he] at hi
  have:x=some i:=by rw[← q];simpa using hi
  rw[this]
  rfl
 rw[H.perm.length_eq,List.length_range,show ow.toList.length=m+1 from by rw[Array.length_toList];exact hz] at this
 omega
theorem jda {m:Nat} (hm:m=7∨m=31) {hs:List Int}{ow:OwnA} (H:LaidT m hs ow) (hl:hs.length≤m) (h:Int):∃ j,SetTable.layClean.free m ow (SetTable.turns m) (SetTable.bits h % (m+1)) (SetTable.bits h)=some j∧LaidT m (hs++[h]) (ow.setIfInBounds j (some hs.length)):=by
 have hz:=H.size
 obtain⟨e,he,ee⟩:=jgh H hl
 obtain⟨d,hd,hc⟩:∃ d,d < m+1∧cyc m d (lp m h 13).1=e:=by
  have l:=lp_lt m h 13
  rcases hm with rfl | rfl
  ·exact cyc7 _ l _ (by omega)
  ·exact cyc31 _ l _ (by omega)
 obtain⟨N,f1,f2,f3⟩:=j84 (m:=m) (h:=h) (ow:=ow) (SetTable.turns m) 0 0 rfl ⟨13+d,by omega,by unfold SetTable.turns;omega,by rw[jgf,hc,Array.getD_eq_getD_getElem?,ee];rfl⟩ fun q hq=>by omega
 have top:=j83 m h N
 have hj:(pth m h N).j < ow.size:=by omega
 have ej:ow[(pth m h N).j]?=some none:=by
  rw[Array.getD_eq_getD_getElem?,Array.getElem?_eq_getElem hj] at f2
  rw[Array.getElem?_eq_getElem hj]
  simpa using f2
 have grow:∀ x:Nat,(ow.getD x (some 0)).isNone=false→((ow.setIfInBounds (pth m h N).j (some hs.length)).getD x (some 0)).isNone=false:=fun x hx=>by
  rw[Array.getD_eq_getD_getElem?] at hx ⊢
  skip;rw[Array.getElem?_setIfInBounds]
  split <;> first | rfl | exact hx | (split <;> rfl)
 refine⟨_,f1,by simp[hz],?_,fun x i q=>?_⟩
 ·rw[Array.toList_setIfInBounds,List.length_append,List.length_singleton,List.range_succ]
  exact (jat _ _ _ (by rw[Array.getElem?_toList];exact ej)).trans ((H.perm.cons _).trans (List.perm_append_comm (l₁:=[hs.length])))
 ·rw[Array.getElem?_setIfInBounds] at q
  by_cases z:(pth m h N).j=x
  ·rw[if_pos z,if_pos (by omega)] at q
   cases q
   exact⟨h,by simp,N,z,fun r hr=>grow _ (f3 r hr)⟩
  ·rw[if_neg z] at q
   obtain⟨h',e1,N',e2,e3⟩:=H.way x i q
   refine⟨h',?_,N',e2,fun r hr=>grow _ (e3 r hr)⟩
   rw[List.getElem?_append_left]
   ·exact e1
   ·obtain⟨w,_⟩:=List.getElem?_eq_some_iff.mp e1
    exact w
theorem jgi {m:Nat} (hm:m=7∨m=31) (hs:List Int) (hl:hs.length≤m):∃ ow,SetTable.layClean m hs.toArray=some ow∧LaidT m hs ow:=by
 have go:∀ (l done:List Int) (ow:OwnA),(done++l).length≤m+0→LaidT m done ow→∃ ow',(l.foldl (fun (acc:Option (OwnA × Nat)) h=>do
   let (owner,k) ← acc
   let j ← SetTable.layClean.free m owner (SetTable.turns m) (SetTable.bits h % (m+1)) (SetTable.bits h)
   pure (owner.setIfInBounds j (some k),k+1)) (some (ow,done.length)))=some (ow',(done++l).length)∧LaidT m (done++l) ow':=by
  intro l
  induction l with
  | nil=>intro done ow _ H;exact⟨ow,by simp,by simpa using H⟩
  | cons h l ih =>
   intro done ow hlen H
   obtain⟨j,f1,H1⟩:=jda hm H (by simp at hlen;omega) h
   obtain⟨ow',e1,e2⟩:=ih (done++[h]) _ (by simpa using hlen) H1
   refine⟨ow',?_,by simpa using e2⟩
   rw[List.foldl_cons]
   have:(do
     let (owner,k) ← some (ow,done.length)
     let j ← SetTable.layClean.free m owner (SetTable.turns m) (SetTable.bits h % (m+1)) (SetTable.bits h)
     pure (owner.setIfInBounds j (some k),k+1))=some (ow.setIfInBounds j (some done.length),(done++[h]).length):=by
    show (SetTable.layClean.free m ow (SetTable.turns m) (SetTable.bits h % (m+1)) (SetTable.bits h)).bind _=_
    rw[f1]
    simp
   rw[this,e1]
   simp
 obtain⟨ow,e,H⟩:=go hs [] _ (by simpa using hl) (jgg m)
 refine⟨ow,?_,by simpa using H⟩
 unfold SetTable.layClean
 rw[List.foldl_toArray]
 simp only[List.length_nil] at e
 rw[e]
 rfl
def j14 (ow:OwnA) (m:Nat):List (Nat × Nat):=(List.range (m+1)).filterMap fun j=>(ow.getD j none).map (j,·)
theorem jgj {ow:OwnA}{m:Nat} (hz:ow.size=m+1):(j14 ow m).map (·.2)=ow.toList.filterMap id:=by
 have e:ow.toList=(List.range (m+1)).map fun j=>ow.getD j none:=by
  refine List.ext_getElem? fun i=>?_
  rw[List.getElem?_map]
  by_cases hi:i < m+1
  ·rw[List.getElem?_range hi,Array.getElem?_toList,Array.getElem?_eq_getElem (by omega)]
   simp[Array.getD,hz,hi]
  ·rw[List.getElem?_eq_none (by rw[Array.length_toList];omega),List.getElem?_eq_none (by simpa using hi)]
   rfl
 rw[e,List.filterMap_map]
 unfold j14
 rw[List.map_filterMap]
 congr 1
 funext j
 show Option.map (·.2) ((ow.getD j none).map (j,·))=ow.getD j none
 cases ow.getD j none <;> rfl
theorem j6z {ow:OwnA}{m:Nat} (hz:ow.size=m+1) {j i:Nat}:(j,i)∈j14 ow m↔ow[j]?=some (some i):=by
 unfold j14
 rw[List.mem_filterMap]
 constructor
 ·rintro⟨x,hx,e⟩
  obtain⟨y,e1,e2⟩:=Option.map_eq_some_iff.mp e
  cases e2
  rw[List.mem_range] at hx
  rw[Array.getD_eq_getD_getElem?,Array.getElem?_eq_getElem (by omega)] at e1
  rw[Array.getElem?_eq_getElem (by omega)]
  exact congrArg some e1
 ·intro h
  obtain⟨hj,_⟩:=Array.getElem?_eq_some_iff.mp h
  refine⟨j,List.mem_range.mpr (by omega),?_⟩
  rw[Array.getD_eq_getD_getElem?,h]
  rfl
theorem jgk (ow:OwnA) (m:Nat):((j14 ow m).map (·.1)).Pairwise (· < ·):=by
 unfold j14
 rw[List.pairwise_map,List.pairwise_filterMap]
 refine (List.pairwise_lt_range (n:=m+1)).imp fun {a b} hab x hx y hy=>?_
 obtain⟨_,_,rfl⟩:=Option.map_eq_some_iff.mp hx
 obtain⟨_,_,rfl⟩:=Option.map_eq_some_iff.mp hy
 exact hab
theorem fm_at {α β:Type} (f:α→Option β):∀ (l:List α),(∀ a∈l,(f a).isSome=true)→∀ r:Nat,(l.filterMap f)[r]?=l[r]?.bind f
 | [],_,r=>by simp
 | a :: l,h,r=>by
  obtain⟨b,hb⟩:=Option.isSome_iff_exists.mp (h a List.mem_cons_self)
  rw[List.filterMap_cons_some hb]
  cases r with
  | zero=>simp[hb]
  | succ r=>simpa using fm_at f l (fun x hx=>h x (List.mem_cons_of_mem _ hx)) r
theorem jdb {t:SetTable}{es:Array (Int × Value)}{wanted:Nat} (hw:SetTable.sizeAbove wanted=32) (hn:es.size≤18) :
  ∃ t' order,t.relaid (es.map (·.1)) wanted=some (t',order)∧(order.filterMap (es[·]?)).size=es.size∧(order.filterMap (es[·]?)).toList.Perm es.toList∧Tab t' (order.filterMap (es[·]?))∧t'.led=t.led∧t'.plain=t.plain:=by
 obtain⟨ow,e,H⟩:=jgi (m:=31) (.inr rfl) (es.toList.map (·.1)) (by simp;omega)
 have hz:=H.size
 have ha:(es.toList.map (·.1)).toArray=es.map (·.1):=by apply Array.ext';simp
 rw[ha] at e
 have p1:=jgj (m:=31) hz
 have p2:((j14 ow 31).map (·.2)).Perm (List.range es.size):=by
  rw[p1]
  have:=H.perm
  simpa using this
 have len:(j14 ow 31).length=es.size:=by have:=p2.length_eq;simpa using this
 have lt:∀ i∈(j14 ow 31).map (·.2),i < es.size:=fun i hi=>List.mem_range.mp (p2.mem_iff.mp hi)
 have some_:∀ i∈(j14 ow 31).map (·.2),(es[i]?).isSome=true:=fun i hi=>by rw[Array.getElem?_eq_getElem (lt i hi)];rfl
 have el:(((j14 ow 31).map (·.2)).toArray.filterMap (es[·]?)).toList=((j14 ow 31).map (·.2)).filterMap (es[·]?):=by rw[Array.toList_filterMap]
 have perm:(((j14 ow 31).map (·.2)).filterMap (es[·]?)).Perm es.toList:=by
  refine (p2.filterMap _).trans ?_
  have:=j46 es.toList es.size (by simp)
  rw[List.take_of_length_le (by simp)] at this
  have e2:(fun i:Nat=>es[i]?)=fun i:Nat=>es.toList[i]?:=by funext i;rw[Array.getElem?_toList]
  rw[e2,this]
 have sz:(((j14 ow 31).map (·.2)).toArray.filterMap (es[·]?)).size=es.size:=by rw[← Array.length_toList,el,perm.length_eq,Array.length_toList]
 refine⟨{ mask:=31,place:=((j14 ow 31).map (·.1)).toArray,dummies:=#[],finger:=t.finger,led:=t.led,moves:=t.movedTo 31,plain:=t.plain },((j14 ow 31).map (·.2)).toArray,?_,sz,by rw[el];exact perm,⟨.inr rfl,rfl,jgk ow 31,by rw[sz];simp[len],by rw[sz];show es.size * 5 < 31 * 3;omega,fun j hj=>?_,fun i hi=>?_⟩,rfl,rfl⟩
 ·unfold SetTable.relaid SetTable.laid
  rw[hw]
  show (SetTable.layClean 31 (es.map (·.1))).bind _=_
  rw[e]
  rfl
 ·obtain⟨⟨x,y⟩,hp,rfl⟩:=List.mem_map.mp (show j∈(j14 ow 31).map (·.1) from hj)
  obtain⟨hx,_⟩:=Array.getElem?_eq_some_iff.mp ((j6z hz).mp hp)
  show x≤31
  omega
 ·rw[sz] at hi
  have hi2:i < (j14 ow 31).length:=by omega
  have hm:(j14 ow 31)[i]∈j14 ow 31:=List.getElem_mem hi2
  cases hq:(j14 ow 31)[i] with
  | mk j o =>
   rw[hq] at hm
   obtain⟨h,h1,N,h2,h3⟩:=H.way j o ((j6z hz).mp hm)
   have ho:o < es.size:=lt o (List.mem_map.mpr ⟨_,hm,rfl⟩)
   have ee:(((j14 ow 31).map (·.2)).toArray.filterMap (es[·]?))[i]?=some es[o]:=by
    rw[← Array.getElem?_toList,el,fm_at _ _ some_,List.getElem?_map,List.getElem?_eq_getElem hi2,hq]
    show es[o]?=_
    exact Array.getElem?_eq_getElem ho
   obtain⟨hb,eq⟩:=Array.getElem?_eq_some_iff.mp ee
   have hh:h=es[o].1:=by
    rw[List.getElem?_map,Array.getElem?_toList,Array.getElem?_eq_getElem ho] at h1
    exact (Option.some.inj h1).symm
   rw[eq,← hh]
   refine⟨N,?_,fun q hq'=>?_⟩
   ·rw[h2]
    show j=(((j14 ow 31).map (·.1)).toArray).getD i 0
    rw[Array.getD_eq_getD_getElem?,List.getElem?_toArray,List.getElem?_map,List.getElem?_eq_getElem hi2,hq]
    rfl
   ·have:=h3 q hq'
    have tp:=j83 31 h q
    rw[Array.getD_eq_getD_getElem?,Array.getElem?_eq_getElem (by omega)] at this
    cases w:ow[(pth 31 h q).j]'(by omega) with
    | none=>rw[w] at this;cases this
    | some i'=>exact List.mem_map.mpr ⟨((pth 31 h q).j,i'),(j6z hz).mpr (by rw[Array.getElem?_eq_getElem (by omega),w]),rfl⟩
theorem jjl {t:SetTable}{es:Array (Int × Value)}{hash:Int}{x:Value}{r:Nat} (T:Tab t es) (n1:(pth t.mask hash r).j∉t.place.toList) (n2:(pth t.mask hash r).j≤t.mask) (n3:∀ q,q < r→(pth t.mask hash q).j∈t.place.toList) (hr:(es.size+1) * 5 < t.mask * 3) :
  Tab { t with place:=SetTable.insertAt t.place (SetTable.below t.place (pth t.mask hash r).j) (pth t.mask hash r).j } (SetTable.insertAt es (SetTable.below t.place (pth t.mask hash r).j) (hash,x)):=by
 have L:=j2u T.ris (pth t.mask hash r).j
 generalize SetTable.below t.place (pth t.mask hash r).j=p at L
 have lp':=L.le
 have hsz:=T.size
 have pl:=j1o t.place p (pth t.mask hash r).j
 have el:=j1o es p (hash,x)
 have es1:(SetTable.insertAt es p (hash,x)).size=es.size+1:=by
  rw[← Array.length_toList,el,List.length_append,List.length_take,List.length_cons,List.length_drop,Array.length_toList]
  omega
 have ps1:(SetTable.insertAt t.place p (pth t.mask hash r).j).size=t.place.size+1:=by
  rw[← Array.length_toList,pl,List.length_append,List.length_take,List.length_cons,List.length_drop,Array.length_toList]
  omega
 have up:∀ y,y∈t.place.toList→y∈(SetTable.insertAt t.place p (pth t.mask hash r).j).toList:=fun y hy=>by
  rw[pl]
  rw[← List.take_append_drop p t.place.toList] at hy
  rcases List.mem_append.mp hy with h | h
  ·exact List.mem_append_left _ h
  ·exact List.mem_append_right _ (List.mem_cons_of_mem _ h)
 refine⟨T.mask,T.dum,jaq T.ris L n1,by rw[es1];show (SetTable.insertAt t.place p (pth t.mask hash r).j).size=_;rw[ps1,hsz],by rw[es1];exact hr,fun j hj=>?_,fun i hi=>?_⟩
 ·rw[pl] at hj
  rcases List.mem_append.mp hj with h | h
  ·exact T.top j (List.mem_of_mem_take h)
  ·skip;rcases List.mem_cons.mp h with rfl | h
   ·exact n2
   ·exact T.top j (List.mem_of_mem_drop h)
 ·have at1:∀ (i:Nat),(SetTable.insertAt es p (hash,x))[i]?=if i < p then es[i]? else if i=p then some (hash,x) else es[i-1]?:=fun i=>by
   rw[← Array.getElem?_toList,el]
   by_cases a:i < p
   ·rw[if_pos a,List.getElem?_append_left (by simp;omega),List.getElem?_take_of_lt a,Array.getElem?_toList]
   ·rw[if_neg a,List.getElem?_append_right (by simp;omega),List.length_take,Array.length_toList,show min p es.size=p by omega]
    by_cases b:i=p
    ·rw[if_pos b,b,Nat.sub_self];rfl
    ·rw[if_neg b]
     obtain⟨c,rfl⟩:∃ c,i=p+1+c:=⟨i-p-1,by omega⟩
     rw[show p+1+c-p=c+1 by omega,List.getElem?_cons_succ,List.getElem?_drop,Array.getElem?_toList,show p+1+c-1=p+c by omega]
  have at2:∀ (i:Nat),(SetTable.insertAt t.place p (pth t.mask hash r).j).getD i 0=if i < p then t.place.getD i 0 else if i=p then (pth t.mask hash r).j else t.place.getD (i-1) 0:=fun i=>by
   rw[Array.getD_eq_getD_getElem?,← Array.getElem?_toList,pl]
   by_cases a:i < p
   ·rw[if_pos a,List.getElem?_append_left (by simp;omega),List.getElem?_take_of_lt a,Array.getElem?_toList,Array.getD_eq_getD_getElem?]
   ·rw[if_neg a,List.getElem?_append_right (by simp;omega),List.length_take,Array.length_toList,show min p t.place.size=p by omega]
    by_cases b:i=p
    ·rw[if_pos b,b,Nat.sub_self];rfl
    ·rw[if_neg b]
     obtain⟨c,rfl⟩:∃ c,i=p+1+c:=⟨i-p-1,by omega⟩
     rw[show p+1+c-p=c+1 by omega,List.getElem?_cons_succ,List.getElem?_drop,Array.getElem?_toList,show p+1+c-1=p+c by omega,Array.getD_eq_getD_getElem?]
  have e:=at1 i
  rw[Array.getElem?_eq_getElem hi] at e
  have e2:=at2 i
  show ∃ N,(pth t.mask (SetTable.insertAt es p (hash,x))[i].1 N).j=(SetTable.insertAt t.place p (pth t.mask hash r).j).getD i 0∧_
  by_cases a:i < p
  ·rw[if_pos a,Array.getElem?_eq_getElem (by omega)] at e
   rw[if_pos a] at e2
   rw[Option.some.inj e,e2]
   obtain⟨N,w1,w2⟩:=T.way i (by omega)
   exact⟨N,w1,fun q hq=>up _ (w2 q hq)⟩
  ·rw[if_neg a] at e e2
   by_cases b:i=p
   ·rw[if_pos b] at e e2
    rw[Option.some.inj e,e2]
    exact⟨r,rfl,fun q hq=>up _ (n3 q hq)⟩
   ·rw[if_neg b,Array.getElem?_eq_getElem (by omega)] at e
    rw[if_neg b] at e2
    rw[Option.some.inj e,e2]
    obtain⟨N,w1,w2⟩:=T.way (i-1) (by omega)
    exact⟨N,w1,fun q hq=>up _ (w2 q hq)⟩
theorem j47 {α:Type} (xs:Array α) (p:Nat) (x:α):(SetTable.insertAt xs p x).toList.Perm (x :: xs.toList):=by
 rw[j1o]
 refine List.perm_middle.trans ?_
 rw[List.take_append_drop]
section
variable {prog:Program}{w:World}{A:Around}{E:Value→Shared→Prop}{s:Shared}
theorem items_int {ks:List Int}{vs:List Value} (h:ItemsAre (intKind prog w) ks vs):∀ v∈vs,∃ n t,v=.int n t:=by
 induction h with
 | nil=>exact fun v hv=>by simp at hv
 | @cons k v' ks vs h1 _ ih =>
  intro v hv
  skip;rcases List.mem_cons.mp hv with rfl | hv
  ·obtain⟨t,e⟩:=Value.isInt_shape h1
   exact⟨_,t,e⟩
  ·exact ih v hv
def RowE (prog:Program) (w:World) (Z:Addr→List Int→Prop) (h:Heap) (e:Int × Value) (L:List Int):Prop:=∃ a,e.2=.ref a∧IsTupleKey (intKind prog w) h L a∧e.1=tupleKeyHash (intKind prog w) L∧Z a L
inductive RowsE (prog:Program) (w:World) (Z:Addr→List Int→Prop) (h:Heap):List (Int × Value)→List (List Int)→Prop
 | nil:RowsE prog w Z h [] []
 | cons {e:Int × Value}{L:List Int}{es:List (Int × Value)}{Ls:List (List Int)}:RowE prog w Z h e L→RowsE prog w Z h es Ls→RowsE prog w Z h (e :: es) (L :: Ls)
theorem RowsE.length {Z:Addr→List Int→Prop}{h:Heap}{es:List (Int × Value)}{Ls:List (List Int)} (r:RowsE prog w Z h es Ls):es.length=Ls.length:=by
 induction r with
 | nil=>rfl
 | cons _ _ ih=>simp[ih]
theorem RowsE.get {Z:Addr→List Int→Prop}{h:Heap}{es:List (Int × Value)}{Ls:List (List Int)} (r:RowsE prog w Z h es Ls):∀ (i:Nat) (hi:i < es.length),RowE prog w Z h es[i] (Ls.getD i []):=by
 induction r with
 | nil=>exact fun i hi=>by simp at hi
 | cons e _ ih =>
  intro i hi
  cases i with
  | zero=>simpa using e
  | succ i=>simpa using ih i (by simpa using hi)
theorem RowsE.perm {Z:Addr→List Int→Prop}{h:Heap}{us es:List (Int × Value)} (p:us.Perm es):∀ {Ls:List (List Int)},RowsE prog w Z h es Ls→∃ Ms,RowsE prog w Z h us Ms∧Ms.Perm Ls:=by
 induction p with
 | nil=>intro Ls r;exact⟨Ls,r,List.Perm.refl _⟩
 | cons x _ ih =>
  intro Ls r
  cases r with
  | cons e r =>
   obtain⟨m,a,b⟩:=ih r
   exact⟨_,.cons e a,b.cons _⟩
 | swap x y l =>
  intro Ls r
  cases r with
  | cons e r =>
   cases r with
   | cons e2 r2=>exact⟨_,.cons e2 (.cons e r2),List.Perm.swap _ _ _⟩
 | trans _ _ i1 i2 =>
  intro Ls r
  obtain⟨m,a,b⟩:=i2 r
  obtain⟨m2,a2,b2⟩:=i1 a
  exact⟨m2,a2,b2.trans b⟩
theorem j70 {h h':Heap}{L:List Int}{a:Addr} (k:IsTupleKey (intKind prog w) h L a) (e:∀ o,o.cls=.type "tuple"→h.get? a=some o→h'.get? a=some o):IsTupleKey (intKind prog w) h' L a:=by
 obtain⟨o,items,n,ho,hc,r⟩:=k
 exact⟨o,items,n,e o hc ho,hc,r⟩
theorem RowsE.kept {Z:Addr→List Int→Prop}{h h':Heap}{es:List (Int × Value)}{Ls:List (List Int)} (r:RowsE prog w Z h es Ls) (e:∀ b o,o.cls=.type "tuple"→h.get? b=some o→h'.get? b=some o):RowsE prog w Z h' es Ls:=by
 induction r with
 | nil=>exact .nil
 | cons x _ ih =>
  obtain⟨a,x1,x2,x3⟩:=x
  exact .cons ⟨a,x1,j70 x2 (e a),x3⟩ ih
end
end L2
set_option Elab.async false
set_option linter.all false
set_option maxRecDepth 100000
set_option maxHeartbeats 4000000
namespace L2
open PySem PySem.Spec PyProof.Rows PySem.W
theorem j91 {prog:Program}{w:World}{ks:List Int}{vs:List Value} (h:ItemsAre (intKind prog w) ks vs):IntsAre vs ks:=by
 induction h with
 | nil=>exact .nil
 | @cons k v ks vs h1 _ ih =>
  obtain⟨t,e⟩:=Value.isInt_shape h1
  subst e
  exact .cons k t ih
inductive RowsV (prog:Program) (w:World) (Z:Addr→List Int→Prop) (h:Heap):List Value→List (List Int)→Prop
 | nil:RowsV prog w Z h [] []
 | cons {a:Addr}{L:List Int}{vs:List Value}{Ls:List (List Int)}:IsTupleKey (intKind prog w) h L a→Z a L→RowsV prog w Z h vs Ls→RowsV prog w Z h (.ref a :: vs) (L :: Ls)
section
variable {prog:Program}{w:World}{A:Around}{E:Value→Shared→Prop}{s:Shared}{Z:Addr→List Int→Prop}{h:Heap}
theorem RowsV.length {vs:List Value}{Ls:List (List Int)} (r:RowsV prog w Z h vs Ls):vs.length=Ls.length:=by
 induction r with
 | nil=>rfl
 | cons _ _ _ ih=>simp[ih]
theorem RowsV.kept {h':Heap}{vs:List Value}{Ls:List (List Int)} (r:RowsV prog w Z h vs Ls) (e:∀ b o,o.cls=.type "tuple"→h.get? b=some o→h'.get? b=some o):RowsV prog w Z h' vs Ls:=by
 induction r with
 | nil=>exact .nil
 | cons x y _ ih=>exact .cons (j70 x (e _)) y ih
theorem RowsV.at {vs:List Value}{Ls:List (List Int)} (r:RowsV prog w Z h vs Ls) (hne:∀ L∈Ls,L≠[]):RowsAt h vs Ls:=by
 induction r with
 | nil=>trivial
 | @cons a L vs Ls x y _ ih =>
  obtain⟨o,items,n,ho,hc,hd,hi⟩:=x
  exact⟨⟨a,items,rfl,⟨o,ho,hc,n,hd⟩,j91 hi,hne L List.mem_cons_self⟩,ih fun M hM=>hne M (List.mem_cons_of_mem _ hM)⟩
end
inductive RefsH (H:Hp):List V→List (List Int)→Prop
 | nil:RefsH H [] []
 | cons {a:Addr}{L:List Int}{vs:List V}{Ls:List (List Int)}:H a=some (.tup (L.map V.int))→RefsH H vs Ls→RefsH H (.ref a :: vs) (L :: Ls)
theorem RefsH.length {H:Hp}{vs:List V}{Ls:List (List Int)} (r:RefsH H vs Ls):vs.length=Ls.length:=by
 induction r with
 | nil=>rfl
 | cons _ _ ih=>simp[ih]
theorem RefsH.mono {H H':Hp} (e:Ext H H') {vs:List V}{Ls:List (List Int)} (r:RefsH H vs Ls):RefsH H' vs Ls:=by
 induction r with
 | nil=>exact .nil
 | cons x _ ih=>exact .cons (e _ _ x) ih
theorem RefsH.get {H:Hp}{vs:List V}{Ls:List (List Int)} (r:RefsH H vs Ls):∀ (i:Nat) (v:V),vs[i]?=some v→∃ a,v=.ref a∧H a=some (.tup ((Ls.getD i []).map V.int)):=by
 induction r with
 | nil=>intro i v h;simp at h
 | cons x _ ih =>
  intro i v h
  cases i with
  | zero=>simp at h;subst h;exact⟨_,rfl,by simpa using x⟩
  | succ i=>simpa using ih i v (by simpa using h)
theorem jej:∀ {xs:List V}{us:List Value},Vals xs us→∀ (i:Nat) (u:Value),us[i]?=some u→∃ x,xs[i]?=some x∧Vals [x] [u]
 | _,_,.nil,i,u,h=>by simp at h
 | _,_,.cons r1 r2,i,u,h=>by
  cases i with
  | zero=>simp at h;subst h;exact⟨_,rfl,.cons r1 .nil⟩
  | succ i =>
   obtain⟨x,e,r⟩:=jej r2 i u (by simpa using h)
   exact⟨x,by simpa using e,r⟩
end L2
set_option Elab.async false
set_option linter.all false
set_option maxRecDepth 100000
set_option maxHeartbeats 4000000
namespace L2
open PySem PySem.Spec PyProof.Rows PySem.W
def jjm (p q:List Int × Int):Prop:=p.1 < q.1∨(p.1=q.1∧p.2 < q.2)
instance (p q:List Int × Int):Decidable (jjm p q):=by unfold jjm;infer_instance
inductive PairsAt (prog:Program) (w:World) (h:Heap):List Value→List (List Int × Int)→Prop
 | nil:PairsAt prog w h [] []
 | cons {c a:Addr}{L:List Int}{x:Int}{t:Tok}{vs:List Value}{Ks:List (List Int × Int)}:IsTup h c #[.ref a,.int x t]→IsTupleKey (intKind prog w) h L a→PairsAt prog w h vs Ks→PairsAt prog w h (.ref c :: vs) ((L,x) :: Ks)
section
variable {prog:Program}{w:World}{A:Around}{E:Value→Shared→Prop}{s:Shared}
theorem PairsAt.length {h:Heap}{vs:List Value}{Ks:List (List Int × Int)} (r:PairsAt prog w h vs Ks):vs.length=Ks.length:=by
 induction r with
 | nil=>rfl
 | cons _ _ _ ih=>simp[ih]
theorem PairsAt.kept {h h':Heap} (e:∀ b o,o.cls=.type "tuple"→h.get? b=some o→h'.get? b=some o) {vs:List Value}{Ks:List (List Int × Int)} (r:PairsAt prog w h vs Ks):PairsAt prog w h' vs Ks:=by
 induction r with
 | nil=>exact .nil
 | cons x y _ ih =>
  obtain⟨o,ho,hc,hr⟩:=x
  exact .cons ⟨o,e _ _ hc ho,hc,hr⟩ (j70 y (e _)) ih
theorem PairsAt.get {h:Heap}{vs:List Value}{Ks:List (List Int × Int)} (r:PairsAt prog w h vs Ks):∀ i,i < vs.length→∃ c a t,vs.getD i .none=.ref c∧IsTup h c #[.ref a,.int (Ks.getD i ([],0)).2 t]∧IsTupleKey (intKind prog w) h (Ks.getD i ([],0)).1 a:=by
 induction r with
 | nil=>exact fun i hi=>by simp at hi
 | @cons c a L x t vs Ks x y _ ih =>
  intro i hi
  cases i with
  | zero=>exact⟨c,a,t,rfl,by simpa using x,by simpa using y⟩
  | succ i=>simpa using ih i (by simpa using hi)
end
end L2
set_option Elab.async false
set_option linter.all false
set_option maxRecDepth 100000
set_option maxHeartbeats 4000000
namespace L2
open PySem PySem.Spec PyProof.Rows PySem.W
inductive PairsH (H:Hp):List V→List (List Int × Int)→Prop
 | nil:PairsH H [] []
 | cons {c a:Addr}{L:List Int}{x:Int}{vs:List V}{Ks:List (List Int × Int)}:H c=some (.tup [.ref a,.int x])→H a=some (.tup (L.map V.int))→PairsH H vs Ks→PairsH H (.ref c :: vs) ((L,x) :: Ks)
theorem PairsH.length {H:Hp}{vs:List V}{Ks:List (List Int × Int)} (r:PairsH H vs Ks):vs.length=Ks.length:=by
 induction r with
 | nil=>rfl
 | cons _ _ _ ih=>simp[ih]
theorem PairsH.mono {H H':Hp} (e:Ext H H') {vs:List V}{Ks:List (List Int × Int)} (r:PairsH H vs Ks):PairsH H' vs Ks:=by
 induction r with
 | nil=>exact .nil
 | cons x y _ ih=>exact .cons (e _ _ x) (e _ _ y) ih
section
variable {X:Cx}
open Classical in
end
def noTb:HO→Bool
 | .tbl _=>false
 | _=>true
def ExtT (H H':Hp):Prop:=∀ b o,H b=some o→noTb o=true→H' b=some o
theorem ExtT.rfl' {H:Hp}:ExtT H H:=fun _ _ h _=>h
theorem ExtT.tr {H H1 H2:Hp} (a:ExtT H H1) (b:ExtT H1 H2):ExtT H H2:=fun x o h n=>b x o (a x o h n) n
theorem Ext.toT {H H':Hp} (e:Ext H H'):ExtT H H':=fun b o h _=>e b o h
def CodeH (H:Hp) (c:Addr) (qual:Str):Prop:=∃ (oc:Obj) (vs:Array Value) (t:Tok),H c=some (.frz oc (.own c))∧oc.data=.fields vs∧vs[1]?=some (.str qual t)
theorem CodeH.mono {H H':Hp}{c:Addr}{qual:Str} (e:ExtT H H') (h:CodeH H c qual):CodeH H' c qual:=by
 obtain⟨oc,vs,t,h1,h2⟩:=h
 exact⟨oc,vs,t,e _ _ h1 rfl,h2⟩
theorem CodeH.record {P:Program}{w:World}{H:Hp}{h:Heap}{c:Addr}{qual:Str} (ok:HOk P w H h) (k:CodeH H c qual):h.CodeRec (.ref c) qual:=by
 obtain⟨oc,vs,t,h1,h2,h3⟩:=k
 obtain⟨e,_⟩:=(show ObjOk P w H h c (.frz oc (.own c)) from ok c _ h1)
 exact⟨c,oc,vs,t,rfl,e,h2,h3⟩
def TabR (H:Hp) (P:Addr) (pos:Pos) (qual:Str):Prop:=H P=some (.tbl #[])∨∃ c,H P=some (.tbl #[rawInt pos.line,rawInt pos.col,.ref c])∧CodeH H c qual
theorem TabR.ext {H H':Hp}{P:Addr}{pos:Pos}{qual:Str} (e:Ext H H') (h:TabR H P pos qual):TabR H' P pos qual:=by
 rcases h with h | ⟨c,h,k⟩
 ·exact .inl (e _ _ h)
 ·exact .inr ⟨c,e _ _ h,k.mono (Ext.toT e)⟩
theorem TabR.but {H H':Hp}{P r:Addr}{pos:Pos}{qual:Str}{C dx:Addr}{fs:List (Str × V)} (hr:H r=some (.ins C dx fs)) (e:But r H H') (h:TabR H P pos qual):TabR H' P pos qual:=by
 rcases h with h | ⟨c,h,oc,vs,t,k,k2⟩
 ·exact .inl (e _ _ (fun z=>by rw[z,hr] at h;cases h) h)
 ·exact .inr ⟨c,e _ _ (fun z=>by rw[z,hr] at h;cases h) h,oc,vs,t,e _ _ (fun z=>by rw[z,hr] at k;cases k) k,k2⟩
section
variable {X:Cx}{pins:List (Addr × Obj)}{σ:St}{H:Hp}{s:Shared}
theorem j85 {P c':Addr}{ps more:Array Value}{oc:Obj}{h':Heap}{t':Nat} (I:Inv X pins σ H s) (hP:H P=some (.tbl ps)) (hx:Heap.ExtBut P s.heap h') (hge:s.heap.objs.size≤c') (hoc:h'.get? c'=some oc)
  (htb:h'.get? P=some { cls:=.none,data:=.fields (ps++more) }) :
  Inv X pins σ (upd (upd H P (.tbl (ps++more))) c' (.frz oc (.own c'))) { s with heap:=h',toks:=t' }:=by
 have nc:H c'=none:=I.hok.fresh hge
 have ncP:P≠c':=j05 hP nc
 have keep:∀ b o,H b=some o→noTb o=true→upd (upd H P (.tbl (ps++more))) c' (.frz oc (.own c')) b=some o:=fun b o e n=>by
  rw[j08 (j05 e nc),j08 (fun z=>by rw[z,hP] at e;cases e;cases n)]
  exact e
 refine I.un (h':=h') (t':=t') ⟨fun b o e n _ _=>hx b o (fun z=>by rw[z,hP] at n;cases n) e,fun b o e n _ _=>⟨o.slots,hx b o (fun z=>by rw[z,hP] at n;cases n) e⟩,fun b o e n _=>?_,fun b o e _=>?_,
  fun b xs e=>keep b _ e rfl,fun b ob u e=>keep b _ e rfl,fun b qs e=>?_⟩ fun b u e=>?_
 ·rw[j08 (Nat.ne_of_lt (Nat.lt_of_lt_of_le (Heap.lt_size e) hge)),j08 (fun z=>by rw[z,hP] at n;cases n)]
  exact n
 ·by_cases hb:b=P
  ·exact⟨_,by rw[hb];exact htb⟩
  ·exact⟨o,hx b o hb e⟩
 ·by_cases hb:b=P
  ·subst hb
   rw[hP] at e
   cases e
   exact⟨more,by rw[j08 ncP,j07]⟩
  ·exact⟨#[],by rw[j08 (j05 e nc),j08 hb,e];simp⟩
 ·by_cases hc:b=c'
  ·subst hc
   rw[j07] at e
   cases e
   exact⟨hoc,oc,hoc⟩
  ·rw[j08 hc] at e
   by_cases hb:b=P
   ·subst hb
    rw[j07] at e
    cases e
    exact htb
   ·rw[j08 hb] at e
    refine (I.hok b u e).stay (fun d v hd q=>hx d v ?_ q) (fun d q=>keep d _ q rfl) fun d xs q=>keep d _ q rfl
    rcases hd with z | z
    ·rw[z];exact hb
    ·intro y
     rw[y,hP] at z
     cases z
end
def jek (X:Cx) (pins:List (Addr × Obj)) (N:List Str) (qual:Str) (scope:Scope) (cl:List (Str × Addr)) (f c:Addr) (A:Around) (s:Shared) (H:Hp):Cx where
 prog:=X.prog
 w:=X.w
 K:=X.K
 mg:=X.mg
 base:=X.base
 A:=A.deeper (PySem.W.envX qual scope s.heap.objs.size f (.ref c) cl)
 N:=N
 s₀:=s
 H₀:=H
 env:=PySem.W.envX qual scope s.heap.objs.size f (.ref c) cl
 outer:=X.stack
 stack:=PySem.W.envX qual scope s.heap.objs.size f (.ref c) cl :: X.stack
 ex:=[]
 fn:=fun _=>false
 calm:=true
 pn:=X.pn++pins
 xe:=NoX
def lSt (v:V) (js:List Nat) (σ:St):St:=some v :: js.map (j8z σ)
structure LamOk (X:Cx) (scope:Scope) (cl:List (Str × Addr)) (x:Str) (fr:List Str) (js:List Nat):Prop where
 kind:scope.kind=.function
 co:scope.isCoroutine=false
 gen:scope.isGenerator=false
 nc:∀ y∈scope.names,y.2≠.cell
 par:scope.names.lookup x=some .local
 clos:j2f X.env.cells scope.names []=some cl
 frees:Frees X scope fr js
section
variable {X:Cx}{pins:List (Addr × Obj)}{σ:St}{H:Hp}{s:Shared}
theorem jdc {A:Around}{x qual:Str}{fr:List Str}{js:List Nat}{scope:Scope}{cl:List (Str × Addr)}{f c:Addr}{h':Heap}{tk:Nat}{v:V}{u:Value} (I:Inv X pins σ H s) (O:LamOk X scope cl x fr js) (hA:A.frames=some X.stack) (hh:A.handled=none) (r:RelV v u)
  (hn:h'.Ns s.heap.objs.size (fun y=>[(x,u)].reverse.lookup y)) (hk:∀ b o,s.heap.get? b=some o→h'.get? b=some o) :
  Inv (jek X pins (x :: fr) qual scope cl f c A s H) [] (lSt v js σ) H { s with heap:=h',toks:=tk }:=by
 have sub:=j34 _ _ _ O.clos (fun _ _ q=>by simp at q)
 have noA:∀ b:Addr,b∉(jek X pins (x :: fr) qual scope cl f c A s H).ex:=fun b z=>absurd (show b∈([]:List Addr) from z) (by simp)
 refine⟨⟨I.ok.mod,O.kind,rfl,rfl,Nat.le_refl _,fun y z d e1 e2=>I.ok.inj y z d (sub _ _ e1) (sub _ _ e2),fun y hy=>?_,(fun y d q=>Bool.noConfusion (show false=true from q)),fun _=>hh,Around.frames_deeper hA,.inr ⟨rfl,rfl⟩,fun b z=>absurd z (noA b),
  I.bs,Nat.le_trans I.ok.bsz I.sz,fun b _ _=>noA b,fun b z=>absurd z (noA b),I.stack,I.stkFree⟩,rfl,I.bare,Un.kept hk,⟨_,hn,fun i y w e1 e2 e3=>?_⟩,fun y d e=>?_,I.hok.fresh (Nat.le_refl _),fun y d e=>I.freeC y d (sub y d e),fun p hp=>?_,I.hok.kept hk,?_⟩
 ·have hy':scope.names.lookup y=some .cell∨scope.names.lookup y=some .free:=hy
  rcases hy' with hy' | hy'
  ·exact absurd rfl (O.nc _ (PySem.mem_of_lookup hy'))
  ·exact j2g _ _ _ O.clos y (.inr (PySem.mem_of_lookup hy'))
 ·cases i with
  | zero =>
   have e1':x=y:=by
    have z:(x :: fr)[0]?=some y:=e1
    simpa using z
   have e2':v=w:=by simpa[lSt] using e2
   subst e1' e2'
   exact⟨u,r,.inl ⟨O.par,by simp⟩⟩
  | succ i =>
   have e1':fr[i]?=some y:=by
    have z:(x :: fr)[i+1]?=some y:=e1
    simpa using z
   obtain⟨j,hj,nj,kj,lj⟩:=O.frees.get e1'
   have e2':j8z σ j=some w:=by
    unfold lSt at e2
    rw[List.getElem?_cons_succ,List.getElem?_map,hj] at e2
    exact Option.some.inj e2
   have e4:σ[j]?=some (some w):=by
    unfold j8z at e2'
    split at e2'
    ·rename_i o q;rw[q,e2']
    ·cases e2'
   obtain⟨m,hm,hl⟩:=I.loc
   obtain⟨u',ru,lk⟩:=hl j y w nj e4 (kj.elim (fun q=>.inr (.inl q)) fun q=>.inr (.inr q))
   refine⟨u',ru,.inr ⟨lj,?_⟩⟩
   rcases lk with⟨q,_⟩ | ⟨_,d,ed,id⟩
   ·rcases kj with k | k <;> (rw[q] at k;cases k)
   ·have lj':scope.names.lookup y=some .free:=by
     rcases lj with z | z
     ·exact absurd rfl (O.nc _ (PySem.mem_of_lookup z))
     ·exact z
    obtain⟨d',ed'⟩:=j2g _ _ _ O.clos y (.inr (PySem.mem_of_lookup lj'))
    have:=sub _ _ ed'
    rw[ed] at this
    cases this
    exact⟨d,ed',id.keeps hk⟩
 ·obtain⟨w,q⟩:=I.cell y d (sub y d e)
  exact⟨w,q.keeps hk⟩
 ·have hp':p∈X.pn++pins:=by
   rcases List.mem_append.mp hp with q | q
   ·exact q
   ·simp at q
  obtain⟨q1,q2,q3,q4,q5⟩:=I.pin p hp'
  refine⟨hk _ _ q1,q2,Nat.ne_of_lt (Heap.lt_size q1),fun z=>?_,q5⟩
  rcases List.mem_cons.mp (I.stkSub _ z) with y | y
  ·exact q3 y
  ·exact q4 y
 ·show (lSt v js σ).length=(x :: fr).length
  unfold lSt
  rw[List.length_cons,List.length_cons,List.length_map,O.frees.len]
theorem jgl {A:Around}{E:Value→Shared→Prop}{k:Nat}{name x qual:Str}{fr:List Str}{js:List Nat}{params:Arguments}{body:Expr}{scope:Scope}{cl:List (Str × Addr)}{f c:Addr}{pm ctv:Value}{t:TE}{v:V}{u:Value}{Q:VK} (I:Inv X pins σ H s) (O:LamOk X scope cl x fr js)
  (hA:A.frames=some X.stack) (hr:Room (k+1) A) (hf:(f,PySem.W.kla_obj name qual params body scope cl pm c ctv)∈pins) (hc:CodeH H c qual) (r:RelV v u)
  (hbind:bindArgs (PySem.W.kla_fn name qual params body scope cl pm (.ref c) ctv) ⟨[u],[]⟩=pure [(x,u)])
  (hb:PE (jek X pins (x :: fr) qual scope cl f c A s H) body t) (hq:t (lSt v js σ) H Q):wpAny (model X.prog X.w) A (call (.ref f) [u]) (EP X pins σ Q) E s:=by
 obtain⟨ho,_⟩:=I.pin _ (List.mem_append_right _ hf)
 refine wpAny_call (PySem.W.kla_callFunE hr.depth ho rfl O.co O.gen rfl (hc.record I.hok) ?_)
 rw[hbind]
 refine wpAny_pure (wpAny_newFunctionEnv O.nc (fun y hy=>by rw[List.mem_singleton.mp hy];exact O.par) (fun h₁ hns hsb=>⟨I.nolimit.fresh _ hsb,?_⟩) O.kind)
 skip;have hk₁:∀ b o,s.heap.get? b=some o→h₁.get? b=some o:=fun b o e=>hsb.extBut b o (Nat.ne_of_lt (Heap.lt_size e)) (Heap.get?_push_of_some _ e)
 have J:=jdc (A:=A) (qual:=qual) (f:=f) (c:=c) (tk:=s.toks+[(x,u)].length) I O hA hr.hd r hns hk₁
 show codeAny _ _ (.expr body (PySem.W.envX qual scope s.heap.objs.size f (.ref c) cl)) _ _
 refine PySem.W.kla_codeExpr (wpAny_mono (hb [] _ _ H Q J hq) (fun u' s' ⟨v',H',J',r',q'⟩=>?_) fun _ _ z=>False.elim z)
 have I':Inv X pins σ H' s':=I.call' (ch:=[]) J'.os J'.base J'.hok J'.bare fun b z=>absurd z (by simp)
 exact⟨v',H',I',r',q'⟩
end
def j1j (lt:Nat→Nat→Bool):Nat→Nat
 | 0=>0
 | j+1=>if lt (j+1) (j1j lt j)=true then j+1 else j1j lt j
section
variable {prog:Program}{w:World}{A:Around}{E:Value→Shared→Prop}{s:Shared}
theorem j3b {b:Bool}{it l:Addr}{k:Nat}{xs:Array Value}{x:Value}{Q:Option Value→Shared→Prop} (i0:ItA b s.heap it l k) (l0:SqA b s.heap l xs) (hx:xs[k]?=some x)
  (q:∀ h',ItA b h' it l (k+1)→Heap.SameBut it s.heap h'→Q (some x) { s with heap:=h' }):wpAny (model prog w) A (pyNext (.ref it)) Q E s:=by
 cases b
 ·exact wpAny_pyNext_list_item i0 l0 hx q
 ·exact wpAny_pyNext_tuple_item i0 l0 hx q
theorem j92 {b:Bool}{it l:Addr}{k:Nat}{xs:Array Value}{Q:Option Value→Shared→Prop} (hh:A.handled=none) (i0:ItA b s.heap it l k) (l0:SqA b s.heap l xs) (hx:xs[k]?=none)
  (q:∀ h',Heap.ExtBut it s.heap h'→Q none { s with heap:=h' }):wpAny (model prog w) A (pyNext (.ref it)) Q E s:=by
 cases b
 ·exact wpAny_pyNext_list_end hh i0 l0 hx q
 ·exact wpAny_pyNext_tuple_end hh i0 l0 hx q
end
section
variable {X:Cx}{pins:List (Addr × Obj)}{σ:St}{H:Hp}{s:Shared}
theorem Inv.drop1 {pins':List (Addr × Obj)}{a:Addr}{o:Obj}{h':Heap}{t':Nat} (I:Inv X pins σ H s) (ha:(a,o)∈pins) (hs:X.s₀.heap.objs.size≤a) (hk:∀ b u,b≠a→s.heap.get? b=some u→h'.get? b=some u) (hX:∀ p∈X.pn,p.1≠a)
  (hp:∀ p∈pins',p∈pins∧p.1≠a):Inv X pins' σ H { s with heap:=h',toks:=t' }:=by
 obtain⟨a1,a2,a3,a4,a5⟩:=I.pin _ (List.mem_append_right _ ha)
 have J0:Inv X [] σ H s:=I.pins_of fun p z=>by cases z
 have cl:∀ x c,X.env.cells.lookup x=some c→c≠a:=fun x c e z=>by
  obtain⟨v,ob,h1,h2⟩:=I.cell x c e
  rw[z] at h1
  have h3:s.heap.get? a=some o:=a1
  rw[h3] at h1
  cases h1
  exact a5 v h2
 have J1:Inv X [] σ H { s with heap:=h',toks:=t' }:=J0.turned hk a2 a3 (.inr hs) cl fun p z=>by
  rcases List.mem_append.mp z with z | z
  ·exact hX p z
  ·cases z
 refine J1.pins_of fun p z=>?_
 obtain⟨z1,z2⟩:=hp p z
 obtain⟨p1,p2,p3,p4,p5⟩:=I.pin p (List.mem_append_right _ z1)
 exact⟨hk _ _ z2 p1,p2,p3,p4,p5⟩
theorem Inv.repin {pins':List (Addr × Obj)}{a:Addr}{o o':Obj}{h':Heap}{t':Nat} (I:Inv X pins σ H s) (ha:(a,o)∈pins) (hs:X.s₀.heap.objs.size≤a) (hk:∀ b u,b≠a→s.heap.get? b=some u→h'.get? b=some u) (hn:h'.get? a=some o') (hd:∀ v,o'.data≠.cell v) (hX:∀ p∈X.pn,p.1≠a)
  (hp:∀ p∈pins',(p∈pins∧p.1≠a)∨p=(a,o')):Inv X pins' σ H { s with heap:=h',toks:=t' }:=by
 obtain⟨a1,a2,a3,a4,a5⟩:=I.pin _ (List.mem_append_right _ ha)
 have J1:Inv X [] σ H { s with heap:=h',toks:=t' }:=I.drop1 ha hs hk hX fun p z=>by cases z
 refine J1.pins_of fun p z=>?_
 rcases hp p z with⟨z1,z2⟩ | rfl
 ·obtain⟨p1,p2,p3,p4,p5⟩:=I.pin p (List.mem_append_right _ z1)
  exact⟨hk _ _ z2 p1,p2,p3,p4,p5⟩
 ·exact⟨hn,a2,a3,a4,hd⟩
theorem Inv.pin2 {h':Heap}{t':Nat}{a b:Addr}{o p:Obj} (I:Inv X pins σ H s) (hk:∀ d u,s.heap.get? d=some u→h'.get? d=some u) (ha:h'.get? a=some o) (hb:h'.get? b=some p) (la:s.heap.objs.size≤a) (lb:s.heap.objs.size≤b) (da:∀ v,o.data≠.cell v) (db:∀ v,p.data≠.cell v) :
  Inv X (pins++[(a,o),(b,p)]) σ H { s with heap:=h',toks:=t' }:=by
 have J:Inv X pins σ H { s with heap:=h',toks:=t' }:=I.kept hk
 refine J.pins_of fun q hq=>?_
 rcases List.mem_append.mp hq with z | z
 ·exact J.pin q (List.mem_append_right _ z)
 ·rcases List.mem_cons.mp z with rfl | z
  ·exact⟨ha,I.hok.fresh la,Nat.ne_of_gt (Nat.lt_of_lt_of_le I.lt la),I.nofs la,da⟩
  ·rw[List.mem_singleton.mp z]
   exact⟨hb,I.hok.fresh lb,Nat.ne_of_gt (Nat.lt_of_lt_of_le I.lt lb),I.nofs lb,db⟩
structure Keyed (X:Cx) (A:Around) (σ:St) (KR:Hp→V→Nat→Prop) (lt:Nat→Nat→Bool):Prop where
 ext:∀ {H H':Hp}{v:V}{i:Nat},Ext H H'→KR H v i→KR H' v i
 cmp:∀ {pins:List (Addr × Obj)}{H:Hp}{s:Shared}{v1 v2:V}{u1 u2:Value}{i j:Nat}{Q:Value→Shared→Prop}{E:Value→Shared→Prop},Inv X pins σ H s→KR H v1 i→RelV v1 u1→KR H v2 j→RelV v2 u2→Q (.bool (lt i j)) s →
  wpAny (model X.prog X.w) A (richCompare .Lt u1 u2) Q E s
structure Turns (X:Cx) (A:Around) (pins:List (Addr × Obj)) (σ:St) (KR:Hp→V→Nat→Prop) (G:Hp→Prop) (q l:Addr) (xs:List V) (tp:Bool):Prop where
 ext:∀ {H H':Hp},Ext H H'→G H→G H'
 src:∀ {H:Hp},G H→SqE X.K H l xs tp
 turn:∀ {ps:List (Addr × Obj)}{H:Hp}{s:Shared}{i:Nat}{x:V}{u:Value}{E:Value→Shared→Prop},(∀ p∈pins,p∈ps)→Inv X ps σ H s→G H→xs[i]?=some x→RelV x u →
  wpAny (model X.prog X.w) A (call (.ref q) [u]) (EP X ps σ fun kv H'=>KR H' kv i∧Ext H H') E s
variable {A:Around}{KR:Hp→V→Nat→Prop}{lt:Nat→Nat→Bool}{G:Hp→Prop}{l q It S:Addr}{xs:List V}{tp:Bool}{R:Result→Shared→Prop}
theorem jjn (hh:A.handled=none) (KY:Keyed X A.in1 σ KR lt) (T:Turns X A.in1 pins σ KR G q l xs tp) (sI:X.s₀.heap.objs.size≤It) (sS:X.s₀.heap.objs.size≤S) (hSI:S≠It) (pI:∀ p∈X.pn++pins,p.1≠It) (pS:∀ p∈X.pn++pins,p.1≠S)
  (hR:∀ {H:Hp}{s:Shared}{x:V}{u:Value},xs[j1j lt (xs.length-1)]?=some x→RelV x u→Inv X pins σ H s→G H→R (.ok (.ret u)) s) :
  ∀ (r j:Nat) {s:Shared}{H:Hp}{oI:Obj}{c:Nat}{vb kb:Value}{xb kv:V},xs.length-(j+1)=r→j+1≤xs.length→Inv X (pins++[(It,oI),(S,seqObj "list" #[vb,kb] c)]) σ H s→ItA tp s.heap It l (j+1)→xs[j1j lt j]?=some xb→RelV xb vb→RelV kv kb→KR H kv (j1j lt j)→G H →
   codeAny (model X.prog X.w) A (.builtin "min.loop" ⟨[.ref It,.ref q,.ref S],[]⟩) R s:=by
 skip;have hname:(toString "min"++toString ".loop":String)="min.loop":=by decide
 intro r
 induction r with
 | zero =>
  intro j s H oI c vb kb xb kv hr hj I hit hxb rxb rkv hkr hG
  have mI:(It,oI)∈pins++[(It,oI),(S,seqObj "list" #[vb,kb] c)]:=List.mem_append_right _ (.head _)
  have gS:=(I.pin (S,seqObj "list" #[vb,kb] c) (List.mem_append_right _ (List.mem_append_right _ (.tail _ (.head _))))).1
  obtain⟨its,rv,sq,_⟩:=I.sqe (T.src hG)
  have hl:=rv.length
  skip;refine codeAny_builtin PySem.F.entry_min_loop ?_
  skip;rw[Around.under_plainId PySem.F.plain_min_loop _]
  skip;show wpAny _ A.in1 (seqItems? (.ref S) >>= _) _ _ _
  skip;refine wpAny_bind (wpAny_seqItems gS rfl ?_)
  skip;show wpAny _ A.in1 (tryCatch (pyNext (.ref It)) _ >>= _) _ _ _
  refine wpAny_bind (wpAny_tryCatch (j92 hh hit sq (Array.getElem?_eq_none (by rw[List.size_toArray];omega)) fun h' hx=>?_))
  have I1:Inv X (pins++[(S,seqObj "list" #[vb,kb] c)]) σ H { s with heap:=h' }:=I.drop1 mI sI (fun b u n e=>hx b u n e) (fun p hp=>pI p (List.mem_append_left _ hp)) fun p hp=>by
   skip;rcases List.mem_append.mp hp with z | z
   ·exact⟨List.mem_append_left _ z,pI p (List.mem_append_right _ z)⟩
   ·rw[List.mem_singleton.mp z];exact⟨List.mem_append_right _ (.tail _ (.head _)),hSI⟩
  have gS1:h'.get? S=some (seqObj "list" #[vb,kb] c):=hx S _ hSI gS
  skip;have s1:=Heap.SameBut.update h' S (Obj.mapSeq fun _=>(#[]:Array Value))
  skip;show wpAny _ A.in1 (updateSeq S (fun _=>#[]) >>= _) _ _ _
  skip;refine wpAny_bind ?_
  refine wpAny_updateSeq gS1 rfl (wpAny_bind (wpAny_letGo (wpAny_pure ?_)))
  refine hR (x:=xb) (H:=H) (by rw[show xs.length-1=j by omega];exact hxb) rxb (I1.drop1 (List.mem_append_right _ (.head _)) sS (fun b u n e=>(s1.2 b n).trans e) (fun p hp=>pS p (List.mem_append_left _ hp)) fun p hp=>⟨List.mem_append_left _ hp,pS p (List.mem_append_right _ hp)⟩) hG
 | succ r ih =>
  intro j s H oI c vb kb xb kv hr hj I hit hxb rxb rkv hkr hG
  have mI:(It,oI)∈pins++[(It,oI),(S,seqObj "list" #[vb,kb] c)]:=List.mem_append_right _ (.head _)
  have gS:=(I.pin (S,seqObj "list" #[vb,kb] c) (List.mem_append_right _ (List.mem_append_right _ (.tail _ (.head _))))).1
  obtain⟨its,rv,sq,_⟩:=I.sqe (T.src hG)
  have hl:=rv.length
  have hx:xs[j+1]?=some (xs[j+1]'(by omega)):=List.getElem?_eq_getElem _
  obtain⟨u,eu,ru⟩:=rv.get hx
  skip;refine codeAny_builtin PySem.F.entry_min_loop ?_
  skip;rw[Around.under_plainId PySem.F.plain_min_loop _]
  skip;show wpAny _ A.in1 (seqItems? (.ref S) >>= _) _ _ _
  skip;refine wpAny_bind (wpAny_seqItems gS rfl ?_)
  skip;show wpAny _ A.in1 (tryCatch (pyNext (.ref It)) _ >>= _) _ _ _
  refine wpAny_bind (wpAny_tryCatch (j3b hit sq (by simpa using eu) fun h' hit' sb=>?_))
  obtain⟨oI',goI',dI'⟩:=hit'.ex
  have I1:Inv X (pins++[(It,oI'),(S,seqObj "list" #[vb,kb] c)]) σ H { s with heap:=h' }:=I.repin mI sI (fun b u n e=>(sb.2 b n).trans e) goI' dI' (fun p hp=>pI p (List.mem_append_left _ hp)) fun p hp=>by
   skip;rcases List.mem_append.mp hp with z | z
   ·exact .inl ⟨List.mem_append_left _ z,pI p (List.mem_append_right _ z)⟩
   ·rcases List.mem_cons.mp z with rfl | z
    ·exact .inr rfl
    ·rw[List.mem_singleton.mp z];exact .inl ⟨List.mem_append_right _ (.tail _ (.head _)),hSI⟩
  show wpAny _ A.in1 (tryCatch (holding [u] (call (.ref q) [u])) _ >>= _) _ _ _
  refine wpAny_bind (wpAny_tryCatch (wpAny_holding (wpAny_mono (T.turn (fun p hp=>List.mem_append_left _ hp) I1 hG hx ru) (fun ku s2 ⟨kv2,H2,I2,rk2,hk2,e2⟩=>?_) fun _ _ hF=>hF)))
  have gI2:=(I2.pin (It,oI') (List.mem_append_right _ (List.mem_append_right _ (.head _)))).1
  have gS2:=(I2.pin (S,seqObj "list" #[vb,kb] c) (List.mem_append_right _ (List.mem_append_right _ (.tail _ (.head _))))).1
  have hit2:ItA tp s2.heap It l (j+1+1):=hit'.at fun o e=>by rw[goI'] at e;cases e;exact gI2
  show wpAny _ A.in1 (tryCatch (holding [u,ku] (richCompare .Lt ku kb >>= _)) _ >>= _) _ _ _
  refine wpAny_bind (wpAny_tryCatch (wpAny_holding (wpAny_bind (KY.cmp I2 hk2 rk2 (KY.ext e2 hkr) rkv ?_))))
  skip;refine wpAny_bind (wpAny_holding (wpAny_truthy_bool ?_))
  skip;refine wpAny_bind (wpAny_letGo (wpAny_pure ?_))
  by_cases hb':lt (j+1) (j1j lt j)=true
  ·have eb:j1j lt (j+1)=j+1:=by unfold j1j;rw[if_pos hb']
   have s1:=Heap.SameBut.update s2.heap S (Obj.mapSeq fun _=>#[u,ku])
   obtain⟨c2,hc2⟩:∃ c2,(s2.heap.update S (Obj.mapSeq fun _=>#[u,ku])).get? S=some (seqObj "list" #[u,ku] c2):=⟨_,get?_update_seq gS2 fun _=>#[u,ku]⟩
   simp only[hb',if_true]
   skip;refine wpAny_bind ?_
   refine wpAny_updateSeq gS2 rfl (wpAny_bind (wpAny_letGo ?_))
   rw[hname]
   have I3:Inv X (pins++[(It,oI'),(S,seqObj "list" #[u,ku] c2)]) σ H2 { s2 with heap:=s2.heap.update S (Obj.mapSeq fun _=>#[u,ku]) }:=I2.repin (List.mem_append_right _ (.tail _ (.head _))) sS (fun b u n e=>(s1.2 b n).trans e) hc2 (fun v z=>by cases z) (fun p hp=>pS p (List.mem_append_left _ hp)) fun p hp=>by
    skip;rcases List.mem_append.mp hp with z | z
    ·exact .inl ⟨List.mem_append_left _ z,pS p (List.mem_append_right _ z)⟩
    ·rcases List.mem_cons.mp z with rfl | z
     ·exact .inl ⟨List.mem_append_right _ (.head _),hSI.symm⟩
     ·exact .inr (List.mem_singleton.mp z)
   refine wpAny_pure ⟨plainId_quiet PySem.F.plain_min_loop _,ih (j+1) (by omega) (by omega) I3 (hit2.at fun o e=>(s1.2 It hSI.symm).trans e) (by rw[eb];exact hx) ru rk2 (by rw[eb];exact hk2) (T.ext e2 hG)⟩
  ·have eb:j1j lt (j+1)=j1j lt j:=by show (if _ then _ else _)=_;rw[if_neg hb']
   have hb2:lt (j+1) (j1j lt j)=false:=by simpa using hb'
   simp only[hb2,Bool.false_eq_true,if_false]
   skip;refine wpAny_bind (wpAny_letGo ?_)
   rw[hname]
   refine wpAny_pure ⟨plainId_quiet PySem.F.plain_min_loop _,ih (j+1) (by omega) (by omega) I2 hit2 (by rw[eb];exact hxb) rxb rkv (by rw[eb];exact KY.ext e2 hkr) (T.ext e2 hG)⟩
theorem mk_min {E:Value→Shared→Prop}{Q:Value→Shared→Prop} (hh:A.handled=none) (I:Inv X pins σ H s) (hG:G H) (KY:Keyed X A.in1 σ KR lt) (T:Turns X A.in1 pins σ KR G q l xs tp) (hne:0 < xs.length)
  (hQ:∀ {H:Hp}{s:Shared}{x:V}{u:Value},xs[j1j lt (xs.length-1)]?=some x→RelV x u→Inv X pins σ H s→G H→Q u s) :
  wpAny (model X.prog X.w) A (call (.builtin "min") [.ref l] [(Str.ofString "key",.ref q)]) Q E s:=by
 skip;have hname:(toString "min"++toString ".loop":String)="min.loop":=by decide
 obtain⟨its,rv,sq,_⟩:=I.sqe (T.src hG)
 have hl:=rv.length
 skip;refine kmk_tree PySem.F.kind_min PySem.F.plain_min PySem.F.entry_min (kmk_min_key _ _) ?_
 skip;show wpAny _ A.in1 (Builtin.Builtins.bindParams "min" ["key","default"] 0 ⟨[],[(Str.ofString "key",.ref q)]⟩ >>= _) _ _ s
 skip;refine wpAny_bind (wpAny_of_eq (show Builtin.Builtins.bindParams "min" ["key","default"] 0 ⟨[],[(Str.ofString "key",.ref q)]⟩=pure [some (.ref q),none] from rfl) ?_)
 refine wpAny_bind (wpAny_pure ?_)
 refine wpAny_bind (jnd sq ?_)
 skip;refine wpAny_bind (wpAny_newList ?_ (Nat.zero_le _))
 rw[hname]
 have hS:(s.heap.push (itO tp l)).objs.size=s.heap.objs.size+1:=size_push' ..
 have gI:((s.heap.push (itO tp l)).push (seqObj "list" #[] 0)).get? s.heap.objs.size=some (itO tp l):=Heap.get?_push_of_some _ (Heap.get?_push_size _ rfl)
 have gS:((s.heap.push (itO tp l)).push (seqObj "list" #[] 0)).get? (s.heap.push (itO tp l)).objs.size=some (seqObj "list" #[] 0):=Heap.get?_push_size _ rfl
 have I1:Inv X (pins++[(s.heap.objs.size,itO tp l),((s.heap.push (itO tp l)).objs.size,seqObj "list" #[] 0)]) σ H { s with heap:=(s.heap.push (itO tp l)).push (seqObj "list" #[] 0) } :=
  I.pin2 (fun d u e=>Heap.get?_push_of_some _ (Heap.get?_push_of_some _ e)) gI gS (Nat.le_refl _) (by rw[hS];omega) (fun v z=>by cases z) fun v z=>by cases z
 have hit1:ItA tp ((s.heap.push (itO tp l)).push (seqObj "list" #[] 0)) s.heap.objs.size l 0:=jfr gI
 have hSI:(s.heap.push (itO tp l)).objs.size≠s.heap.objs.size:=by rw[hS];omega
 have sI:X.s₀.heap.objs.size≤s.heap.objs.size:=I.sz
 have sS:X.s₀.heap.objs.size≤(s.heap.push (itO tp l)).objs.size:=by rw[hS];omega
 have pI:∀ p∈X.pn++pins,p.1≠s.heap.objs.size:=fun p hp=>Nat.ne_of_lt (Heap.lt_size (I.pin p hp).1)
 have pS:∀ p∈X.pn++pins,p.1≠(s.heap.push (itO tp l)).objs.size:=fun p hp=>by rw[hS];exact Nat.ne_of_lt (Nat.lt_succ_of_lt (Heap.lt_size (I.pin p hp).1))
 skip;refine wpAny_pure ⟨plainId_quiet PySem.F.plain_min_loop _,?_⟩
 generalize s.heap.objs.size=It at *
 generalize (s.heap.push (itO tp l)).objs.size=S at *
 generalize (s.heap.push (itO tp l)).push (seqObj "list" #[] 0)=h2 at *
 have hx:xs[0]?=some (xs[0]'hne):=List.getElem?_eq_getElem _
 obtain⟨its2,rv2,sq2,_⟩:=I1.sqe (T.src hG)
 obtain⟨u,eu,ru⟩:=rv2.get hx
 skip;refine codeAny_builtin PySem.F.entry_min_loop ?_
 skip;rw[Around.under_plainId PySem.F.plain_min_loop _]
 skip;show wpAny _ A.in1 (seqItems? (.ref _) >>= _) _ _ _
 skip;refine wpAny_bind (wpAny_seqItems gS rfl ?_)
 skip;show wpAny _ A.in1 (tryCatch (pyNext (.ref It)) _ >>= _) _ _ _
 refine wpAny_bind (wpAny_tryCatch (j3b hit1 sq2 (by simpa using eu) fun h' hit' sb=>?_))
 obtain⟨oI',goI',dI'⟩:=hit'.ex
 have I2:Inv X (pins++[(It,oI'),(S,seqObj "list" #[] 0)]) σ H { s with heap:=h' }:=I1.repin (List.mem_append_right _ (.head _)) sI (fun b u n e=>(sb.2 b n).trans e) goI' dI' (fun p hp=>pI p (List.mem_append_left _ hp)) fun p hp=>by
  skip;rcases List.mem_append.mp hp with z | z
  ·exact .inl ⟨List.mem_append_left _ z,pI p (List.mem_append_right _ z)⟩
  ·rcases List.mem_cons.mp z with rfl | z
   ·exact .inr rfl
   ·rw[List.mem_singleton.mp z];exact .inl ⟨List.mem_append_right _ (.tail _ (.head _)),hSI⟩
 show wpAny _ A.in1 (tryCatch (holding [u] (call (.ref q) [u])) _ >>= _) _ _ _
 refine wpAny_bind (wpAny_tryCatch (wpAny_holding (wpAny_mono (T.turn (fun p hp=>List.mem_append_left _ hp) I2 hG hx ru) (fun ku s2 ⟨kv2,H2,I3,rk2,hk2,e2⟩=>?_) fun _ _ hF=>hF)))
 have gI2:=(I3.pin (It,oI') (List.mem_append_right _ (List.mem_append_right _ (.head _)))).1
 have gS2:=(I3.pin (S,seqObj "list" #[] 0) (List.mem_append_right _ (List.mem_append_right _ (.tail _ (.head _))))).1
 have hit2:ItA tp s2.heap It l 1:=hit'.at fun o e=>by rw[goI'] at e;cases e;exact gI2
 have s1:=Heap.SameBut.update s2.heap S (Obj.mapSeq fun _=>#[u,ku])
 obtain⟨c2,hc2⟩:∃ c2,(s2.heap.update S (Obj.mapSeq fun _=>#[u,ku])).get? S=some (seqObj "list" #[u,ku] c2):=⟨_,get?_update_seq gS2 fun _=>#[u,ku]⟩
 show wpAny _ A.in1 (updateSeq S (fun _=>#[u,ku]) >>= _) _ _ _
 skip;refine wpAny_bind ?_
 refine wpAny_updateSeq gS2 rfl ?_
 rw[hname]
 have I4:Inv X (pins++[(It,oI'),(S,seqObj "list" #[u,ku] c2)]) σ H2 { s2 with heap:=s2.heap.update S (Obj.mapSeq fun _=>#[u,ku]) }:=I3.repin (List.mem_append_right _ (.tail _ (.head _))) sS (fun b u n e=>(s1.2 b n).trans e) hc2 (fun v z=>by cases z) (fun p hp=>pS p (List.mem_append_left _ hp)) fun p hp=>by
  skip;rcases List.mem_append.mp hp with z | z
  ·exact .inl ⟨List.mem_append_left _ z,pS p (List.mem_append_right _ z)⟩
  ·rcases List.mem_cons.mp z with rfl | z
   ·exact .inl ⟨List.mem_append_right _ (.head _),hSI.symm⟩
   ·exact .inr (List.mem_singleton.mp z)
 refine wpAny_pure ⟨plainId_quiet PySem.F.plain_min_loop _,jjn hh KY T sI sS hSI pI pS (fun h1 h2 h3 h4=>hQ h1 h2 h3 h4) _ 0 rfl hne I4 (hit2.at fun o e=>(s1.2 It hSI.symm).trans e) hx ru rk2 hk2 (T.ext e2 hG)⟩
end
section
variable {prog:Program}{w:World}{A:Around}{E:Value→Shared→Prop}{s:Shared}
theorem jjo {a b:Int}{t u:Tok}{Q:Value→Shared→Prop} (h:Q (.bool (decide (a < b))) s):wpAny (model prog w) A (richCompare .Lt (.int a t) (.int b u)) Q E s :=
 richCompare_gives (op:=.Lt) (typeIs_int s _ t) (typeIs_int s _ u) F.slot_int_lt F.entry_int_lt (F.args_int_lt_2 _ _) (gives_int_lt _ _ t u) (fun x=>nomatch x) h
end
def KRi (kf:Nat→Int):Hp→V→Nat→Prop:=fun _ v i=>v=.int (kf i)
def lti (kf:Nat→Int) (i j:Nat):Bool:=decide (kf i < kf j)
section
variable {X:Cx}{σ:St}{A:Around}
theorem jau (kf:Nat→Int):Keyed X A σ (KRi kf) (lti kf) where
 ext:=fun _ h=>h
 cmp:=fun {pins H s v1 v2 u1 u2 i j Q E} I h1 r1 h2 r2 q=>by
  cases (show v1=.int (kf i) from h1)
  cases (show v2=.int (kf j) from h2)
  obtain⟨t1,rfl⟩:=r1
  obtain⟨t2,rfl⟩:=r2
  exact jjo q
end
abbrev LA (α:Type):=List (Addr × Obj)→Addr→Addr→Shared→Hp→α
def srcO (tp:Bool) (xs:List V):HO:=if tp then .tup xs else .lst xs
theorem jjp {K:PySem.W.Frag}{H:Hp}{l:Addr}{xs:List V}{tp:Bool} (h:H l=some (srcO tp xs)):SqE K H l xs tp:=by
 cases tp
 ·exact SqL.of h
 ·exact SqT.of h
theorem jgm (tp:Bool) (xs:List V):noTb (srcO tp xs)=true:=by cases tp <;> rfl
theorem jdd {P:Program}{w:World}{K:PySem.W.Frag}{mg mb:Str→Option Value}{CX:CXT}{k:Nat}{fa a:Addr}{fd:FuncData}{x:Str}{sp:Sp}{s₁:Shared}{vs:List Value}{ns:List Int}{cps:List (Addr × Addr)}
  (KX:K.In s₁.heap) (hns:s₁.heap.Ns mainGlobals mg) (hb:s₁.heap.Ns builtinsNs mb) (hbb:∀ x:Str,x≠"__name__"→mb x=bootBuiltins x) (hlim:s₁.heap.NoLimit)
  (hbm:∃ bm ob,mg "__builtins__"=some (.ref bm)∧bm≠builtinsNs∧s₁.heap.get? bm=some ob∧ob.cls=.type "module"∧ob.dict=some builtinsNs∧ob.data=.plain) (hg:s₁.gens=#[])
  (ha:s₁.heap.get? a=some { cls:=.type "list",data:=.seq vs.toArray }) (hi:IntsAre vs ns) (hl:ns.length≤sizeLine) (hr:Room k callerA)
  (hK:PySem.W.noTabs K=true) (hT:∀ q∈cps,PySem.W.codeHdIn K q.1 q.2=true∧s₁.heap.get? q.2=some (PySem.W.tabObj #[]))
  (F:∀ base:Heap,K.In base→base.Ns mainGlobals mg→FnOk P w K mg base CX k fa fd [x] sp) (hbind:∀ (s:Shared) (u:Value),BindsTo s fd ⟨[u],[]⟩ [(x,u)])
  (hsp:∀ H:Hp,(∀ q∈cps,H q.2=some (.tbl #[]))→SqL K H a (ns.map V.int)→sp [.ref a] H (fun v _=>v=.bl true) fun _ _ _=>False)
  (hCX:∀ H e s',CX [] H s₁ (fun _ _ _=>False) e s'→False) :
  codeAny (model P w) callerA (.call (.ref fa) ⟨[.ref a],[]⟩) (fun r s'=>r=.ok (.ret (.bool true))∧OldK s₁.heap s'.heap∧s'.os=s₁.os∧AllBare s'.gens) s₁:=by
 have rv:=j2s hi
 have lenV:=hi.length
 have tabN:∀ q∈cps,q.2≠a:=fun q hq z=>by
  have:=(hT q hq).2
  rw[z,ha] at this
  cases this
 have tabK:∀ q∈cps,K.lookup q.2=none:=fun q hq=>by
  cases e:K.lookup q.2 with
  | none=>rfl
  | some o =>
   have h1:=KX _ _ e
   rw[(hT q hq).2] at h1
   cases h1
   have h2:=List.all_eq_true.mp hK (q.2,_) (PySem.W.mem_of_lookupK e)
   skip;exact absurd (show false=true from h2) Bool.false_ne_true
 let tr:Addr→Option HO:=fun b=>if b=a then (if K.lookup a=none then some (.frz { cls:=.type "list",data:=.seq vs.toArray } (.lst (ns.map V.int))) else none) else if b∈cps.map (·.2) then some (.tbl #[]) else none
 obtain⟨H,hH⟩:∃ H:Hp,H=tr:=⟨tr,rfl⟩
 have Ha:H a=if K.lookup a=none then some (.frz { cls:=.type "list",data:=.seq vs.toArray } (.lst (ns.map V.int))) else none:=by rw[hH];exact if_pos rfl
 have Hb:∀ b,b≠a→b∈cps.map (·.2)→H b=some (.tbl #[]):=fun b h1 h2=>by rw[hH];show (if _ then _ else _)=_;rw[if_neg h1,if_pos h2]
 have Hn:∀ b,b≠a→b∉cps.map (·.2)→H b=none:=fun b h1 h2=>by rw[hH];show (if _ then _ else _)=_;rw[if_neg h1,if_neg h2]
 have each:∀ b u,H b=some u→(b=a∧K.lookup a=none∧u=.frz { cls:=.type "list",data:=.seq vs.toArray } (.lst (ns.map V.int)))∨(u=.tbl #[]∧∃ q∈cps,q.2=b):=fun b u e=>by
  by_cases h1:b=a
  ·subst h1
   rw[Ha] at e
   by_cases h2:K.lookup b=none
   ·rw[if_pos h2] at e;cases e;exact .inl ⟨rfl,h2,rfl⟩
   ·rw[if_neg h2] at e;cases e
  ·by_cases h2:b∈cps.map (·.2)
   ·rw[Hb b h1 h2] at e
    cases e
    obtain⟨q,hq,rfl⟩:=List.mem_map.mp h2
    exact .inr ⟨rfl,q,hq,rfl⟩
   ·rw[Hn b h1 h2] at e;cases e
 have kn:∀ b u,H b=some u→K.lookup b=none:=fun b u e=>by
  rcases each b u e with⟨rfl,h,_⟩ | ⟨_,q,hq,rfl⟩
  ·exact h
  ·exact tabK q hq
 have hok:HOk P w H s₁.heap:=fun b u e=>by
  rcases each b u e with⟨rfl,h,rfl⟩ | ⟨rfl,q,hq,rfl⟩
  ·exact⟨ha,by rw[List.length_map];exact hl,vs,_,rv,ha⟩
  ·exact (hT q hq).2
 have hS:SqL K H a (ns.map V.int):=by
  cases hk:K.lookup a with
  | some o =>
   have e:=KX a o hk
   rw[ha] at e
   cases e
   exact .inr ⟨_,vs.toArray,_,hk,rfl,rfl,rfl,by rw[List.size_toArray,lenV];exact hl,by simpa using rv⟩
  | none=>exact .inl (.inr ⟨{ cls:=.type "list",data:=.seq vs.toArray },by rw[Ha,if_pos hk]⟩)
 have base_of:∀ {b:Addr}{o:Obj},s₁.heap.get? b=some o→H b=none→(hidT s₁.heap H).get? b=some o:=fun e n=>j9h e n
 have noA:∀ {b:Addr}{o:Obj},s₁.heap.get? b=some o→(∀ its n,o.data≠.seq its n)→(∀ fs,o.data≠.fields fs)→H b=none:=fun {b o} e d1 d2=>by
  cases q:H b with
  | none=>rfl
  | some u =>
   rcases each b u q with⟨rfl,_,_⟩ | ⟨_,q',hq,rfl⟩
   ·rw[ha] at e;cases e;exact (d1 _ _ rfl).elim
   ·rw[(hT q' hq).2] at e;cases e;exact (d2 _ rfl).elim
 have nsK:∀ {b:Addr}{m:Str→Option Value},s₁.heap.Ns b m→(hidT s₁.heap H).Ns b m:=fun {b m} ⟨o,es,ep,e,d,r⟩=>⟨o,es,ep,base_of e (noA e (fun _ _ z=>by rw[d] at z;cases z) fun _ z=>by rw[d] at z;cases z),d,r⟩
 have hKb:K.In (hidT s₁.heap H):=fun b o e=>base_of (KX b o e) (by
  cases q:H b with
  | none=>rfl
  | some u=>rw[kn b u q] at e;cases e)
 have hM:Mod K mg (hidT s₁.heap H):=⟨hKb,nsK hns,⟨mb,nsK hb,hbb⟩,let ⟨mc,h1,h2⟩:=hlim;⟨mc,nsK h1,h2⟩,by
  obtain⟨bm,ob,b1,b2,b3,b4,b5,b6⟩:=hbm
  exact⟨bm,ob,b1,b2,base_of b3 (noA b3 (fun _ _ z=>by rw[b6] at z;cases z) fun _ z=>by rw[b6] at z;cases z),b4,b5,b6⟩⟩
 have e0:Env0 P w K mg (hidT s₁.heap H) callerA [] s₁ H:=⟨rfl,hM,fun b o e=>jdx e,Nat.le_of_eq (j7j _ _),trivial,fun b hb=>absurd (show b∈([]:List Addr) from hb) (by simp),hok,.of_eq hg⟩
 refine codeAny_mono ((F _ hKb (nsK hns)).run callerA [] s₁ H ⟨[.ref a],[]⟩ [.ref a] [.ref a] _ _ hr e0 (hbind s₁ (.ref a)) (.cons rfl .nil) (hsp H (fun q hq=>Hb _ (tabN q hq) (List.mem_map.mpr ⟨q,hq,rfl⟩)) hS)) fun r s' h=>?_
 cases r with
 | error e=>exact (hCX H e s' h).elim
 | ok fl =>
  cases fl with
  | next=>exact False.elim h
  | brk=>exact False.elim h
  | cont=>exact False.elim h
  | ret u =>
   obtain⟨v,H',os,bare,un,hok',r',q⟩:=h
   have q':v=.bl true:=q
   subst q'
   obtain rfl:u=Value.bool true:=r'
   have got:∀ b o,s₁.heap.get? b=some o→s'.heap.get? b=some o∨(∃ q∈cps,q.2=b∧∃ more,s'.heap.get? b=some { cls:=.none,data:=.fields (#[]++more) }):=fun b o e=>by
    cases q:H b with
    | none=>exact .inl (un.keep b o e q (by intro z;exact absurd (show b∈([]:List Addr) from z) (by simp)) (by simp))
    | some u =>
     rcases each b u q with⟨rfl,_,rfl⟩ | ⟨rfl,q',hq,rfl⟩
     ·have z2:=un.frzs b _ _ q
      obtain⟨e1,_⟩:=hok b _ q
      obtain⟨e2,_⟩:=hok' b _ z2
      rw[e] at e1;cases e1
      exact .inl e2
     ·obtain⟨more,z2⟩:=un.tbls _ _ q
      exact .inr ⟨q',hq,rfl,more,hok' _ _ z2⟩
   refine⟨rfl,⟨fun b o e=>?_,fun b o e=>?_⟩,os,bare⟩
   ·rcases got b o e with z | ⟨q',hq,rfl,more,z⟩
    ·exact .inl z
    ·obtain⟨h1,h2⟩:=hT q' hq
     rw[h2] at e
     cases e
     obtain⟨oc,vc,file,tf,flags,tg,inF,text,tt,c1,c2,c3,c4,_⟩:=PySem.W.codeHd_of_K KX h1
     exact .inr (.inl ⟨⟨q'.1,oc,vc,c1,c2,c3,c4⟩,rfl,#[],more,rfl,z⟩)
   ·rcases got b o e with z | ⟨_,_,_,_,z⟩
    ·exact⟨_,z⟩
    ·exact⟨_,z⟩
theorem walk_ofT {l:PySem.W.OpenLaw}{n k:Nat}{q:Program}{loose:List Str}{XP:(Str→Option Value)→Heap→Prop}{YP:World→Heap→Prop}{d:DefRec}{K:Params→PySem.W.Frag}{CX:World→CXT}{x:Str}{ts:List Addr}
  (hn:l.most=some n) (hn2:n≤sizeLine) (hdf:d.params.defaults=[]) (hr:Room k callerA)
  (hY:∀ (w:World) (h:Heap),YP w h→(K w.params).In h) (hY2:∀ (w:World) (h:Heap),YP w h→∀ P∈ts,h.get? P=some (PySem.W.tabObj #[]))
  (F:∀ (w:World) (mg:Str→Option Value) (fa:Addr) (h:Heap),(K w.params).In h→h.Ns mainGlobals mg→mg d.name=some (.ref fa) →
   ∃ (fd:FuncData) (cps:List (Addr × Addr)) (sp:Sp),PySem.W.noTabs (K w.params)=true∧(∀ q∈cps,PySem.W.codeHdIn (K w.params) q.1 q.2=true∧ts.contains q.2=true)∧(∀ (s:Shared) (u:Value),BindsTo s fd ⟨[u],[]⟩ [(x,u)]) ∧
    (∀ (H:Hp) (a:Addr) (ns:List Int),ns.length≤n→(∀ z∈ns,ib z≤1048576)→(∀ q∈cps,H q.2=some (.tbl #[]))→SqL (K w.params) H a (ns.map V.int)→sp [.ref a] H (fun v _=>v=.bl true) fun _ _ _=>False) ∧
    ∀ base:Heap,(K w.params).In base→base.Ns mainGlobals mg→FnOk l.prog w (K w.params) mg base (CX w) k fa fd [x] sp)
  (hCX:∀ (w:World) (H:Hp) (s:Shared) (e:Value) (s':Shared),CX w [] H s (fun _ _ _=>False) e s'→False) :
  PySem.W.WalkO q loose XP YP l.row.toRowW d [] (fun f vs=>PySem.call f vs):=by
 refine j6p hn hdf fun w s₀ s₁ mg mb fa o pm cd doc a vs ns G Y ho hd hcd hmg hobj hints hlen hbit hg=>?_
 have KX:=hY w _ Y
 obtain⟨fd,cps,sp,hK,hT,hb,hsp,hF⟩:=F w mg fa _ KX G.T.g hmg
 exact jdd KX G.T.g G.T.b G.T.builtins G.T.nolimit G.T.bmain hg hobj hints (Nat.le_trans hlen hn2) hr hK (fun q hq=>⟨(hT q hq).1,hY2 w _ Y _ (by have:=(hT q hq).2;simpa using this)⟩) hF hb (fun H h1 hS=>hsp H a ns hlen hbit h1 hS) fun H e s'=>hCX w H s₁ e s'
section
variable {P:Program}{w:World}{K:PySem.W.Frag}{mg:Str→Option Value}{base:Heap}
theorem Fun.okL {x qual:Str}{st:Stmt}{f:Addr}{fd:FuncData}{N ps:List Str}{k:Nat}{sp:Sp}{c:Addr} (F:Fun K x qual st f fd) (hc:fd.code=.ref c) (S:FnScope N ps (j01 st)) (len:∀ vs H Q E,sp vs H Q E→vs.length=ps.length)
  (hbody:∀ (A:Around) (outer:List Env) (s:Shared) (H:Hp) (vs:List V) (Q:VK) (E:XK),Room k (A.deeper (envOfC qual (j01 st) s.heap.objs.size f (.ref c)))→sp vs H Q E →
   ∃ t,PSs (cxOf (CXU P w) P w K mg base N qual (j01 st) f (.ref c) A outer s H E).nox (j09 st) t∧t { nx:=fun _ H'=>Q .non H',rt:=Q } (start N vs) H):FnOk P w K mg base (CXU P w) (k+1) f fd ps sp:=by
 obtain⟨oc,od,kV,doc,pm,an,cdv,ct,osl,rfl,lk,hcd⟩:=F.ex
 have e:cdv=.ref c:=hc
 subst e
 refine jm9 lk hcd S len fun A outer s H vs Q E hr hsp=>?_
 obtain⟨t,h,q⟩:=hbody A outer s H vs Q E hr hsp
 exact⟨t,h.nox,q⟩
theorem Room.lam {j k:Nat}{A:Around}{env:Env} (h:j+2≤k) (r:Room k A):Room j (A.in1.deeper env):=(r.mono h).in1.deeper env
end
structure NoC (K:PySem.W.Frag) (C B:Addr):Prop where
 ha:PySem.W.findIn K (.ref C) "__class__"=some (some (.builtin "object.__class__"))
 hn:PySem.W.specialIn K (.builtin "object.__class__") "__get__"=some (some (.builtin "getset_descriptor.__get__"))
 htk:PySem.W.takesIn K (.builtin "object.__class__")=some true
 hm:PySem.W.mroIn K C (.type "object")=some true
 ki:PySem.W.kitOne K (.ref C) (.ref B)=some false
def ButT (x:Addr) (H H':Hp):Prop:=∀ b o,b≠x→H b=some o→noTb o=true→H' b=some o
theorem ExtT.but {x:Addr}{H H1 H2:Hp} (a:ExtT H H1) (b:ButT x H1 H2) (hn:H x=none):ExtT H H2:=fun y o h t=>b y o (j05 h hn) (a y o h t) t
theorem ExtT.ext {H H1 H2:Hp} (a:ExtT H H1) (b:Ext H1 H2):ExtT H H2:=a.tr (Ext.toT b)
theorem ExtT.seqL {K:PySem.W.Frag}{H H':Hp}{p:Addr}{xs:List V} (e:ExtT H H') (h:SqL K H p xs):SqL K H' p xs:=by
 rcases h with (h | ⟨o,h⟩) | h
 ·exact .inl (.inl (e _ _ h rfl))
 ·exact .inl (.inr ⟨o,e _ _ h rfl⟩)
 ·exact .inr h
theorem j3c {lt:Nat→Nat→Bool} (irr:∀ i,lt i i=false) (tr:∀ i j k,lt i j=true→lt j k=true→lt i k=true):∀ n i,i≤n→lt i (j1j lt n)=false
 | 0,i,h=>by rw[show i=0 by omega];exact irr 0
 | n+1,i,h=>by
  show lt i (if lt (n+1) (j1j lt n)=true then n+1 else j1j lt n)=false
  by_cases c:lt (n+1) (j1j lt n)=true
  ·rw[if_pos c]
   by_cases e:i=n+1
   ·rw[e];exact irr _
   ·cases d:lt i (n+1) with
    | false=>rfl
    | true =>
     have:=j3c irr tr n i (by omega)
     rw[tr _ _ _ d c] at this
     cases this
  ·rw[if_neg c]
   by_cases e:i=n+1
   ·rw[e];simpa using c
   ·exact j3c irr tr n i (by omega)
theorem jjq (kf:Nat→Int) (i:Nat):lti kf i i=false:=decide_eq_false (by omega)
theorem lti_tr (kf:Nat→Int) (i j k:Nat) (h1:lti kf i j=true) (h2:lti kf j k=true):lti kf i k=true:=by
 have h1:=of_decide_eq_true h1
 have h2:=of_decide_eq_true h2
 skip;exact decide_eq_true (by omega)
def LamH (H:Hp) (f:Addr) (qual:Str) (params:Arguments) (lb:Expr) (sc:Scope):Prop:=∃ (c:Addr) (pm ctv:Value),H f=some (.frz (PySem.W.kla_obj "<lambda>" qual params lb sc [] pm c ctv) (.own f))∧CodeH H c qual
theorem LamH.mono {H H':Hp}{f:Addr}{qual:Str}{params:Arguments}{lb:Expr}{sc:Scope} (e:ExtT H H') (h:LamH H f qual params lb sc):LamH H' f qual params lb sc:=by
 obtain⟨c,pm,ctv,h1,h2⟩:=h
 exact⟨c,pm,ctv,e _ _ h1 rfl,h2.mono e⟩
theorem LamH.but {H H':Hp}{f r C dx:Addr}{fs:List (Str × V)}{qual:Str}{params:Arguments}{lb:Expr}{sc:Scope} (hr:H r=some (.ins C dx fs)) (e:But r H H') (h:LamH H f qual params lb sc):LamH H' f qual params lb sc:=by
 obtain⟨c,pm,ctv,h1,oc,vs,t,k,k2⟩:=h
 exact⟨c,pm,ctv,e _ _ (fun z=>by rw[z,hr] at h1;cases h1) h1,oc,vs,t,e _ _ (fun z=>by rw[z,hr] at k;cases k) k,k2⟩
theorem Room.lam1 {j k:Nat}{A:Around}{env:Env} (h:j+1≤k) (r:Room k A):Room j (A.deeper env):=(r.mono h).deeper env
def stVal:Stmt→Expr
 | .Assign _ v _=>v
 | .Return (some v) _=>v
 | _=>.Constant .none 0 ⟨0,0,0,0⟩
def jjr (i:Nat):Expr→Expr
 | .Call _ as _ _=>as.getD i (.Constant .none 0 ⟨0,0,0,0⟩)
 | _=>.Constant .none 0 ⟨0,0,0,0⟩
def lamA:Expr→Arguments
 | .Lambda p _ _ _=>p
 | _=>{ posonlyargs:=[],args:=[],vararg:=none,kwonlyargs:=[],kw_defaults:=[],kwarg:=none,defaults:=[] }
def lamB:Expr→Expr
 | .Lambda _ b _ _=>b
 | e=>e
def lamS:Expr→Scope
 | .Lambda _ _ s _=>s
 | _=>{ kind:=.function,names:=[],isGenerator:=false,isCoroutine:=false }
section
variable {X:Cx}
def rInS:R2:=fun x y H Q=>∃ a b:Str,x=.str a∧y=.str b∧Q (.bl (!(Builtin.Str.occurrences b a 0 b.length 1).isEmpty)) H
theorem op_inS:OpR X (compareOp .In) rInS:=by
 skip;intro pins s σ H x y v u Q I rx ry h
 obtain⟨a,b,rfl,rfl,q⟩:=h
 obtain⟨t,rfl⟩:=rx
 obtain⟨t',rfl⟩:=ry
 exact in_gives (typeIs_str s b t') F.slot_str_contains F.entry_str_contains (F.args_str_contains_2 _ _) (gives_str_contains b a t' t) ⟨.bl _,H,I,rfl,q⟩
end
theorem abc_in {c:Nat} (h0:97≤c) (h1:c≤122):(!(Builtin.Str.occurrences (Str.ofString "abcdefghijklmnopqrstuvwxyz") ⟨#[c]⟩ 0 (Str.ofString "abcdefghijklmnopqrstuvwxyz").length 1).isEmpty)=true:=by
 have:=jjd ⟨c-97,by omega⟩
 rw[show 97+(c-97)=c by omega] at this
 rw[this]
 rfl
theorem r_inS {H:Hp}{Q:VK}{a b:Str} (q:Q (.bl (!(Builtin.Str.occurrences b a 0 b.length 1).isEmpty)) H):rInS (.str a) (.str b) H Q:=⟨a,b,rfl,rfl,q⟩
section
variable {ts:List TT}{te:TE}{acc:Addr}{H1:Hp}{R:Hp→Prop}{fr:St}
theorem jde {x:Str}{u:Option V} (hz:x.cps.size≤1000000) (hn:H1 acc=none) (Pv:Nat→List V→Hp→Prop) (h0:Pv 0 [] H1) (kp:∀ i ys H H',Kp H H'→Pv i ys H→Pv i ys H') (len:∀ i ys H,i≤x.cps.size→Pv i ys H→ys.length≤i)
  (turn:∀ (i c:Nat) ys H,x.cps[i]?=some c→Ext H1 H→Pv i ys H→jcx ts te (Pv (i+1)) ys H (some (.str ⟨#[c]⟩) :: fr) H)
  (fin:∀ ys H,Ext H1 H→H acc=some (.lst ys)→Pv x.cps.size ys H→R H):jca (Its x) (jcf 0) ts te acc (u :: fr) H1 R:=by
 refine j4n x.cps.size hz hn (fun σ=>∃ u,σ=u :: fr) Pv ⟨u,rfl⟩ h0 kp (fun i H hi e=>hi) (fun H e=>Nat.le_refl _) len ?_ fin
 rintro i σ ys H v H' G hi e ⟨u,rfl⟩ pv ⟨rfl,c,hc,rfl⟩ hG
 exact hG _ _ ⟨_,rfl⟩ (turn i c ys _ hc e pv)
end
section
variable {prog:Program}{w:World}{A:Around}{E:Value→Shared→Prop}{s:Shared}
theorem jav {src:Source}{n:Nat}{Q:Nat→Shared→Prop} (hn:n≠0) (h:∀ i d,i < n→Q i { s with drawn:=d }):wpAny (model prog w) A (choose src n) Q E s:=fun Γ hΓ p=>by
 unfold choose
 rw[Sem.wp_choose]
 exact⟨hn,by rw[Sem.wp_pure];exact h _ _ (Nat.mod_lt _ (by omega))⟩
theorem jaw {α:Type}:∀ (n:Nat) (xs:List α) {s:Shared}{Q:List α→Shared→Prop},xs.length=n→(∀ ys d,ys.Perm xs→Q ys { s with drawn:=d })→wpAny (model prog w) A (drawOrder n xs) Q E s
 | 0,xs,s,Q,hl,h=>by
  rw[List.length_eq_zero_iff.mp hl] at h ⊢
  unfold drawOrder
  exact wpAny_pure (h [] s.drawn (List.Perm.refl _))
 | n+1,[],s,Q,hl,h=>by simp at hl
 | n+1,x :: xs,s,Q,hl,h=>by
  unfold drawOrder
  refine wpAny_bind (jav (by simp) fun i d hi=>?_)
  rw[List.getElem?_eq_getElem hi]
  refine wpAny_bind (jaw n _ (by rw[List.length_eraseIdx_of_lt hi];omega) fun ys d' hp=>wpAny_pure (h _ d' ?_))
  exact (List.Perm.cons _ hp).trans (j3a _ _ hi)
end
abbrev siD (T:Addr) (i:Nat) (S:Addr) (n ep:Nat):Obj:={ cls:=.type "set_iterator",dict:=none,data:=.fields #[.ref T,rawInt i,.ref S,rawInt n,rawInt ep],slots:=#[] }
abbrev drO (ps:List Nat):Obj:={ cls:=.type "tuple",data:=.seq (ps.map fun (i:Nat)=>rawInt i).toArray }
section
variable {prog:Program}{w:World}{A:Around}{E:Value→Shared→Prop}{s:Shared}
theorem jjs {S:Addr}{es:Array (Int × Value)}{ep:Nat}{t:SetTable}{Q:Value→Shared→Prop} (hS:s.heap.get? S=some (stObj es ep t)) (fits:t.fits es.size=true) (hb:byT w=false) (hp:t.plain=false) (h2:1 < es.size) (hz:es.size≤sizeLine)
  (h:∀ (ps:List Nat) (d:Drawn),ps.Perm (List.range es.size)→Q (.ref (s.heap.objs.size+1)) { s with heap:=(s.heap.push (drO ps)).push (siD s.heap.objs.size 0 S es.size ep),drawn:=d }):wpAny (model prog w) A (pyIter (.ref S)) Q E s:=by
 have te:s.TypeIs (.ref S) "set":=⟨_,hS,rfl⟩
 skip;refine wpAny_pyIter_slot te PySem.F.slot_set_iter (wpAny_call_entry PySem.F.slot_set_iter te jal ?_ (PySem.F.args_set_iter_1 _))
 unfold Builtin.«frozenset.__iter__»
 refine wpAny_bind (wpAny_of_eq (a:=S) rfl ?_)
 unfold Builtin.Frozenset.sizeOf
 refine wpAny_bind (wpAny_bind (wpAny_setEntries_of hS rfl fits (wpAny_pure ?_)))
 refine wpAny_bind ?_
 unfold setDrawn
 refine wpAny_bind (wpAny_setState_of hS rfl fits (wpAny_bind (j2t (wpAny_pure ?_))))
 have e:(!byT w && (!t.plain && decide (es.size > 1)))=true:=by rw[hb,hp,decide_eq_true (show es.size > 1 from h2)];rfl
 show wpAny _ _ (if (!byT w && (!t.plain && decide (es.size > 1)))=true then _ else _) _ _ _
 rw[e,if_pos rfl]
 refine wpAny_bind (jaw es.size (List.range es.size) (List.length_range) fun ps d hps=>wpAny_bind (wpAny_newTuple ?_ (by rw[List.length_map,hps.length_eq,List.length_range];exact hz)))
 have hS':(s.heap.push (drO ps)).get? S=some (stObj es ep t):=Heap.get?_push_of_some _ hS
 refine wpAny_bind (wpAny_setEpoch_of hS' rfl fits ?_)
 refine wpAny_bind (wpAny_newObj_type (wpAny_pure ⟨_,rfl,"set_iterator",_,⟨_,Heap.get?_push_size _ rfl,rfl⟩,j0y.lookup,?_⟩))
 have:=h ps d hps
 rw[← Heap.size_push s.heap (drO ps)] at this
 exact this
theorem jjt {I S T:Addr}{es:Array (Int × Value)}{ep i:Nat}{t:SetTable}{ps:List Nat}{x:Int × Value}{Q:Option Value→Shared→Prop} (hI:s.heap.get? I=some (siD T i S es.size ep)) (hT:s.heap.get? T=some (drO ps)) (hS:s.heap.get? S=some (stObj es ep t)) (fits:t.fits es.size=true) (hi:i < ps.length) (hx:es[ps[i]]?=some x)
  (hQ:∀ h',h'.get? I=some (siD T (i+1) S es.size ep)→Heap.SameBut I s.heap h'→Q (some x.2) { s with heap:=h' }):wpAny (model prog w) A (pyNext (.ref I)) Q E s:=by
 have te:s.TypeIs (.ref I) "set_iterator":=⟨_,hI,rfl⟩
 unfold pyNext
 skip;refine wpAny_bind (wpAny_attempt (wpAny_callSpecial?_slot (name:=Str.ofString "__next__") te j0y (wpAny_call_entry j0y te j4o ?_ (j4p _))))
 unfold Builtin.«set_iterator.__next__»
 refine wpAny_bind (wpAny_of_eq (a:=(Value.ref I,[])) rfl ?_)
 refine wpAny_bind (wpAny_fieldsOf hI rfl ?_)
 show wpAny _ _ (setEntries S >>= _) _ _ _
 refine wpAny_bind (wpAny_setEntries_of hS rfl fits ?_)
 rw[if_neg (by simp)]
 show wpAny _ _ (seqItems? (.ref T) >>= _) _ _ _
 refine wpAny_bind (wpAny_seqItems hT rfl ?_)
 have ep':(ps.map fun (i:Nat)=>rawInt i).toArray[(i:Int).toNat]?=some (rawInt (ps[i]:Nat)):=by
  rw[Int.toNat_natCast,List.getElem?_toArray,List.getElem?_map,List.getElem?_eq_getElem hi]
  rfl
 simp only[ep']
 show wpAny _ _ (setNextDrawn S ((ps[i]:Nat):Int).toNat (ep:Int).toNat >>= _) _ _ _
 rw[Int.toNat_natCast,Int.toNat_natCast]
 refine wpAny_bind ?_
 unfold setNextDrawn
 refine wpAny_bind (wpAny_setState_of hS rfl fits ?_)
 dsimp only
 rw[if_neg (by simp),hx]
 refine wpAny_pure ?_
 refine wpAny_bind (wpAny_setField_rec hI (by simp) fun g1 e1 s1=>?_)
 exact wpAny_pure ⟨_,rfl,wpAny_pure (hQ g1 e1 s1)⟩
theorem sd_end {I S T:Addr}{es:Array (Int × Value)}{ep:Nat}{t:SetTable}{ps:List Nat}{Q:Option Value→Shared→Prop} (hh:A.handled=none) (hI:s.heap.get? I=some (siD T ps.length S es.size ep)) (hT:s.heap.get? T=some (drO ps)) (hS:s.heap.get? S=some (stObj es ep t)) (fits:t.fits es.size=true)
  (hQ:∀ h',(∀ b o,b≠I→s.heap.get? b=some o→h'.get? b=some o)→Q none { s with heap:=h' }):wpAny (model prog w) A (pyNext (.ref I)) Q E s:=by
 have te:s.TypeIs (.ref I) "set_iterator":=⟨_,hI,rfl⟩
 unfold pyNext
 skip;refine wpAny_bind (wpAny_attempt (wpAny_callSpecial?_slot (name:=Str.ofString "__next__") te j0y (wpAny_call_entry j0y te j4o ?_ (j4p _))))
 unfold Builtin.«set_iterator.__next__»
 refine wpAny_bind (wpAny_of_eq (a:=(Value.ref I,[])) rfl ?_)
 refine wpAny_bind (wpAny_fieldsOf hI rfl ?_)
 show wpAny _ _ (setEntries S >>= _) _ _ _
 refine wpAny_bind (wpAny_setEntries_of hS rfl fits ?_)
 rw[if_neg (by simp)]
 show wpAny _ _ (seqItems? (.ref T) >>= _) _ _ _
 refine wpAny_bind (wpAny_seqItems hT rfl ?_)
 have ep':(ps.map fun (i:Nat)=>rawInt i).toArray[((ps.length:Nat):Int).toNat]?=none:=by
  rw[Int.toNat_natCast,List.getElem?_toArray,List.getElem?_eq_none (by rw[List.length_map];exact Nat.le_refl _)]
 simp only[ep']
 show wpAny _ _ (setField (.ref I) 0 (rawInt 0) >>= _) _ _ _
 refine wpAny_bind (wpAny_setField_rec hI (by simp) fun g0 e0 s0=>wpAny_bind (wpAny_setField_rec e0 (by simp) fun g1 e1 s1=>?_))
 have kk:∀ b o,b≠I→s.heap.get? b=some o→g1.get? b=some o:=fun b o q h=>s1.extBut b o q (s0.extBut b o q h)
 skip;refine wpAny_bind ?_;simp only[newExc,newTuple];refine wpAny_bind (wpAny_newObj_type (wpAny_bind (m:=firstArgMember _ _) (wpAny_of_eq (a:=Value.none) (by first | rfl | (simp only[firstArgMember];rfl)) (wpAny_newObj_type ?_ (by size_fits)))) (by size_fits))
 skip;simp only[raiseNew];refine wpAny_bind (wpAny_handled ?_);first | rw[show A.in1.handled=none from hh] | rw[hh]
 skip;refine wpAny_bind (wpAny_pure (wpAny_throw ?_));refine wpAny_bind (wpAny_isInstance (T:="StopIteration") (b:=true) ⟨_,Heap.get?_push_size _ rfl,rfl⟩ isSubtype_stop ?_)
 exact wpAny_pure (hQ _ fun b o q h=>Heap.get?_push_of_some _ (Heap.get?_push_of_some _ (kk b o q h)))
end
structure RiseG (w:World) (t:SetTable) (n:Nat) (sl:Nat→Nat):Prop where
 fits:t.fits n=true
 dr:byT w=false→(!t.plain && decide (n > 1))=false
 zero:sl 0=0
 low:∀ i,i≤n→SetTable.below t.place (sl i)=i
 step:∀ i,i < n→∃ j,t.place[i]?=some j∧j+1=sl (i+1)
section
variable {prog:Program}{w:World}{A:Around}{E:Value→Shared→Prop}{s:Shared}
theorem j48 {S:Addr}{es:Array (Int × Value)}{ep i:Nat}{t:SetTable}{sl:Nat→Nat}{Q:Option (Value × Nat)→Shared→Prop} (hS:s.heap.get? S=some (stObj es ep t)) (R:RiseG w t es.size sl) (hled:t.led=!byT w) (hi:i≤es.size)
  (h:Q (((j9g w S ep es)[i]?).map fun e=>(e.2,fsOf w sl (i+1))) s):wpAny (model prog w) A (setNext S (fsOf w sl i) i ep) Q E s:=by
 unfold setNext
 refine wpAny_bind (wpAny_setState_of hS rfl R.fits (wpAny_bind (j2t ?_)))
 unfold j9g fsOf at h
 unfold fsOf
 by_cases hb:byT w=true
 ·rw[hb] at h ⊢
  simp only[if_true] at h ⊢
  rw[if_neg (by simp)]
  refine wpAny_bind ?_
  unfold setWalk
  refine wpAny_bind (wpAny_setState_of hS rfl R.fits (wpAny_bind (j2t ?_)))
  rw[hb]
  exact wpAny_bind (wpAny_askSetting (wpAny_pure (wpAny_pure h)))
 ·rw[Bool.not_eq_true] at hb
  rw[hb] at h hled ⊢
  simp only[Bool.false_eq_true,if_false] at h ⊢
  show wpAny _ _ (if (!t.plain && decide (es.size > 1))=true then _ else _) _ _ _
  rw[R.dr hb,if_neg (by simp)]
  refine wpAny_bind ?_
  show wpAny _ _ (if (!t.led && !es.isEmpty)=true then _ else _) _ _ _
  rw[hled,if_neg (by simp)]
  refine wpAny_pure ?_
  rw[R.low i hi]
  by_cases hlt:i < es.size
  ·obtain⟨j,e1,e2⟩:=R.step i hlt
   rw[Array.getElem?_eq_getElem hlt] at h ⊢
   rw[e1]
   dsimp only[Option.map] at h ⊢
   rw[e2]
   exact wpAny_pure h
  ·rw[Array.getElem?_eq_none (by omega)] at h ⊢
   exact wpAny_pure h
theorem jgn {I S:Addr}{es:Array (Int × Value)}{ep i:Nat}{t:SetTable}{sl:Nat→Nat}{x:Int × Value}{Q:Option Value→Shared→Prop} (hI:s.heap.get? I=some (siObj (fsOf w sl i) i S es.size ep)) (hS:s.heap.get? S=some (stObj es ep t)) (R:RiseG w t es.size sl) (hled:t.led=!byT w) (hi:i < es.size) (ne:S≠I)
  (hx:(j9g w S ep es)[i]?=some x) (hQ:∀ h',h'.get? I=some (siObj (fsOf w sl (i+1)) (i+1) S es.size ep)→Heap.SameBut I s.heap h'→Q (some x.2) { s with heap:=h' }):wpAny (model prog w) A (pyNext (.ref I)) Q E s:=by
 have te:s.TypeIs (.ref I) "set_iterator":=⟨_,hI,rfl⟩
 unfold pyNext
 refine wpAny_bind (wpAny_attempt (wpAny_callSpecial?_slot (name:=Str.ofString "__next__") te j0y (wpAny_call_entry j0y te j4o ?_ (j4p _))))
 unfold Builtin.«set_iterator.__next__»
 refine wpAny_bind (wpAny_of_eq (a:=(Value.ref I,[])) rfl ?_)
 refine wpAny_bind (wpAny_fieldsOf hI rfl ?_)
 show wpAny _ _ (setEntries S >>= _) _ _ _
 refine wpAny_bind (wpAny_setEntries_of hS rfl R.fits ?_)
 rw[if_neg (by simp)]
 show wpAny _ _ (setNext S (fsOf w sl i:Int).toNat (i:Int).toNat (ep:Int).toNat >>= _) _ _ _
 rw[Int.toNat_natCast,Int.toNat_natCast,Int.toNat_natCast]
 refine wpAny_bind (j48 hS R hled (by omega) ?_)
 rw[hx]
 show wpAny _ _ (setField (.ref I) 0 (rawInt (fsOf w sl (i+1):Nat)) >>= _) _ _ _
 refine wpAny_bind (wpAny_setField_rec hI (by simp) fun g1 e1 s1=>wpAny_bind (wpAny_setField_rec e1 (by simp) fun g2 e2 s2=>?_))
 refine wpAny_pure ⟨_,rfl,wpAny_pure (hQ g2 ?_ (s1.trans s2))⟩
 exact e2
theorem jju {I S:Addr}{es:Array (Int × Value)}{ep:Nat}{t:SetTable}{sl:Nat→Nat}{Q:Option Value→Shared→Prop} (hh:A.handled=none) (hI:s.heap.get? I=some (siObj (fsOf w sl es.size) es.size S es.size ep)) (hS:s.heap.get? S=some (stObj es ep t)) (R:RiseG w t es.size sl) (hled:t.led=!byT w)
  (hQ:∀ h',(∀ b o,b≠I→s.heap.get? b=some o→h'.get? b=some o)→Q none { s with heap:=h' }):wpAny (model prog w) A (pyNext (.ref I)) Q E s:=by
 have te:s.TypeIs (.ref I) "set_iterator":=⟨_,hI,rfl⟩
 unfold pyNext
 refine wpAny_bind (wpAny_attempt (wpAny_callSpecial?_slot (name:=Str.ofString "__next__") te j0y (wpAny_call_entry j0y te j4o ?_ (j4p _))))
 unfold Builtin.«set_iterator.__next__»
 refine wpAny_bind (wpAny_of_eq (a:=(Value.ref I,[])) rfl ?_)
 refine wpAny_bind (wpAny_fieldsOf hI rfl ?_)
 show wpAny _ _ (setEntries S >>= _) _ _ _
 refine wpAny_bind (wpAny_setEntries_of hS rfl R.fits ?_)
 rw[if_neg (by simp)]
 show wpAny _ _ (setNext S (fsOf w sl es.size:Int).toNat (es.size:Int).toNat (ep:Int).toNat >>= _) _ _ _
 rw[Int.toNat_natCast,Int.toNat_natCast,Int.toNat_natCast]
 refine wpAny_bind (j48 hS R hled (Nat.le_refl _) ?_)
 rw[Array.getElem?_eq_none (by rw[jan];exact Nat.le_refl _)]
 show wpAny _ _ (setField (.ref I) 2 .none >>= _) _ _ _
 refine wpAny_bind (wpAny_setField_rec hI (by simp) fun g1 e1 s1=>?_)
 have kk:∀ b o,b≠I→s.heap.get? b=some o→g1.get? b=some o:=fun b o q h=>s1.extBut b o q h
 refine wpAny_bind ?_;simp only[newExc,newTuple];refine wpAny_bind (wpAny_newObj_type (wpAny_bind (m:=firstArgMember _ _) (wpAny_of_eq (a:=Value.none) (by first | rfl | (simp only[firstArgMember];rfl)) (wpAny_newObj_type ?_ (by size_fits)))) (by size_fits))
 simp only[raiseNew];refine wpAny_bind (wpAny_handled ?_);first | rw[show A.in1.handled=none from hh] | rw[hh]
 refine wpAny_bind (wpAny_pure (wpAny_throw ?_));refine wpAny_bind (wpAny_isInstance (T:="StopIteration") (b:=true) ⟨_,Heap.get?_push_size _ rfl,rfl⟩ isSubtype_stop ?_)
 exact wpAny_pure (hQ _ fun b o q h=>Heap.get?_push_of_some _ (Heap.get?_push_of_some _ (kk b o q h)))
theorem jgo {S:Addr}{es:Array (Int × Value)}{ep:Nat}{t:SetTable}{sl:Nat→Nat}{Q:Value→Shared→Prop} (hS:s.heap.get? S=some (stObj es ep t)) (R:RiseG w t es.size sl)
  (h:Q (.ref s.heap.objs.size) { s with heap:=s.heap.push (siObj 0 0 S es.size ep) }):wpAny (model prog w) A (pyIter (.ref S)) Q E s:=by
 have te:s.TypeIs (.ref S) "set":=⟨_,hS,rfl⟩
 refine wpAny_pyIter_slot te PySem.F.slot_set_iter (wpAny_call_entry PySem.F.slot_set_iter te jal ?_ (PySem.F.args_set_iter_1 _))
 unfold Builtin.«frozenset.__iter__»
 refine wpAny_bind (wpAny_of_eq (a:=S) rfl ?_)
 unfold Builtin.Frozenset.sizeOf
 refine wpAny_bind (wpAny_bind (wpAny_setEntries_of hS rfl R.fits (wpAny_pure ?_)))
 refine wpAny_bind ?_
 unfold setDrawn
 refine wpAny_bind (wpAny_setState_of hS rfl R.fits (wpAny_bind (j2t (wpAny_pure ?_))))
 have e:(!byT w && (!t.plain && decide (es.size > 1)))=false:=by
  cases hb:byT w with
  | true=>rfl
  | false=>rw[R.dr hb];rfl
 show wpAny _ _ (if (!byT w && (!t.plain && decide (es.size > 1)))=true then _ else _) _ _ _
 rw[e,if_neg (by decide)]
 refine wpAny_bind (wpAny_pure ?_)
 refine wpAny_bind (wpAny_setEpoch_of hS rfl R.fits ?_)
 exact wpAny_bind (wpAny_newObj_type (wpAny_pure ⟨_,rfl,"set_iterator",_,⟨_,Heap.get?_push_size _ rfl,rfl⟩,j0y.lookup,h⟩))
end
theorem jdf {prog:Program}{w:World}{A:Around} (hh:A.handled=none) (I S:Addr) (ne:S≠I) {es:Array (Int × Value)}{ep:Nat}{t:SetTable}{sl:Nat→Nat} (R:RiseG w t es.size sl) (hled:t.led=!byT w) :
  Walks prog w A I [I,S] [I] es.size (fun i v=>((j9g w S ep es)[i]?).map (·.2)=some v) (fun i h=>i≤es.size∧h.get? I=some (siObj (fsOf w sl i) i S es.size ep)∧h.get? S=some (stObj es ep t)) where
 sub:=fun b hb=>by rw[List.mem_singleton.mp hb];simp
 frame:=fun _ _ _ x hk=>⟨x.1,hk I (by simp) _ x.2.1,hk S (by simp) _ x.2.2⟩
 item:=fun i s Q E hi x (hQ)=>by
  have hx:(j9g w S ep es)[i]?=some ((j9g w S ep es)[i]'(by rw[jan];exact hi)):=Array.getElem?_eq_getElem _
  refine jgn x.2.1 x.2.2 R hled hi ne hx fun h' hit' hs'=>?_
  exact hQ _ h' s.toks (by rw[hx];rfl) ⟨hi,hit',(hs'.2 S ne).trans x.2.2⟩ fun b o hb eo=>hs'.extBut b o (fun h=>hb (by simp[h])) eo
 done:=fun s Q E x hQ=>jju hh x.2.1 x.2.2 R hled fun h' he'=>hQ h' s.toks fun b o hb eo=>he' b o (fun h=>hb (by simp[h])) eo
 self:=fun _ _ _ _ x hQ=>jjf x.2.1 hQ
section
variable {prog:Program}{w:World}{A:Around}{E:Value→Shared→Prop}{s:Shared}
theorem jjv {I S T:Addr}{i n ep:Nat}{Q:Value→Shared→Prop} (hI:s.heap.get? I=some (siD T i S n ep)) (h:Q (.ref I) s):wpAny (model prog w) A (pyIter (.ref I)) Q E s:=by
 have ti:s.TypeIs (.ref I) "set_iterator":=⟨_,hI,rfl⟩
 skip;refine wpAny_pyIter_slot ti j4q (wpAny_call_entry j4q ti jak ?_ (jaj _))
 exact wpAny_pure ⟨_,rfl,"set_iterator",_,ti,j0y.lookup,h⟩
end
theorem jgp {prog:Program}{w:World}{A:Around} (hh:A.handled=none) (I S T:Addr) (nS:S≠I) (nT:T≠I) {es:Array (Int × Value)}{ep:Nat}{t:SetTable}{ps:List Nat} (fits:t.fits es.size=true) (hl:ps.length=es.size) (hm:∀ k∈ps,k < es.size) :
  Walks prog w A I [I,S,T] [I] es.size (fun i v=>(ps.map fun k=>(es.getD k (0,.none)).2)[i]?=some v) (fun i h=>h.get? I=some (siD T i S es.size ep)∧h.get? S=some (stObj es ep t)∧h.get? T=some (drO ps)) where
 sub:=fun b hb=>by rw[List.mem_singleton.mp hb];simp
 frame:=fun _ _ _ x hk=>⟨hk I (by simp) _ x.1,hk S (by simp) _ x.2.1,hk T (by simp) _ x.2.2⟩
 item:=fun i s Q E hi x (hQ)=>by
  have hi':i < ps.length:=by omega
  have hk:ps[i] < es.size:=hm _ (List.getElem_mem hi')
  refine jjt x.1 x.2.2 x.2.1 fits hi' (Array.getElem?_eq_getElem hk) fun h' hit' hs'=>?_
  refine hQ _ h' s.toks ?_ ⟨hit',(hs'.2 S nS).trans x.2.1,(hs'.2 T nT).trans x.2.2⟩ fun b o hb eo=>hs'.extBut b o (fun h=>hb (by simp[h])) eo
  rw[List.getElem?_map,List.getElem?_eq_getElem hi',Option.map_some,Array.getD_eq_getD_getElem?,Array.getElem?_eq_getElem hk]
  rfl
 done:=fun s Q E x hQ=>sd_end hh (by rw[hl];exact x.1) x.2.2 x.2.1 fits fun h' he'=>hQ h' s.toks fun b o hb eo=>he' b o (fun h=>hb (by simp[h])) eo
 self:=fun _ _ _ _ x hQ=>jjv x.1 hQ
theorem jdg {w:World}{t:SetTable}{n:Nat} (hf:t.fits n=true) (hd:byT w=false→(!t.plain && decide (n > 1))=false) (hr:Ris t.place) (hn:t.place.size=n):RiseG w t n fun i=>if i=0 then 0 else t.place.getD (i-1) 0+1:=by
 have R:=jge (t:={ t with plain:=true }) (n:=n) hf rfl hr hn
 exact⟨hf,hd,rfl,R.low,R.step⟩
section
variable {prog:Program}{w:World}{A:Around}{E:Value→Shared→Prop}{s:Shared}
theorem jax {S:Addr}{es:Array (Int × Value)}{ep:Nat}{t:SetTable}{Q:Value→Shared→Prop} (hS:s.heap.get? S=some (stObj es ep t)) (T:Tab t es) (hled:t.led=!byT w) (hz:es.size≤sizeLine)
  (h:∀ (I:Addr) (fp:List Addr) (h':Heap) (d:Drawn) (ord:List Value) (St:Nat→Heap→Prop),s.heap.objs.size≤I→(∀ b o,s.heap.get? b=some o→h'.get? b=some o)→(∀ b∈fp,b=S∨s.heap.objs.size≤b)→ord.Perm (es.toList.map (·.2))→(∀ A':Around,A'.handled=none→Walks prog w A' I fp [I] es.size (fun i v=>ord[i]?=some v) St)→St 0 h'→Q (.ref I) { s with heap:=h',drawn:=d }):wpAny (model prog w) A (pyIter (.ref S)) Q E s:=by
 have lS:S < s.heap.objs.size:=Heap.lt_size hS
 by_cases dr:byT w=false∧t.plain=false∧1 < es.size
 ·refine jjs hS T.fits dr.1 dr.2.1 dr.2.2 hz fun ps d hp=>?_
  have hl:ps.length=es.size:=by rw[hp.length_eq,List.length_range]
  have hm:∀ k∈ps,k < es.size:=fun k hk=>List.mem_range.mp (hp.mem_iff.mp hk)
  have n1:(s.heap.push (drO ps)).objs.size=s.heap.objs.size+1:=Heap.size_push ..
  refine h _ [s.heap.objs.size+1,S,s.heap.objs.size] _ d (ps.map fun k=>(es.getD k (0,.none)).2) _ (Nat.le_succ _) (fun b o e=>Heap.get?_push_of_some _ (Heap.get?_push_of_some _ e)) (fun b hb=>?_) ?_ (fun A' h'=>jgp h' _ S _ (Nat.ne_of_lt (Nat.lt_succ_of_lt lS)) (Nat.ne_of_lt (Nat.lt_succ_self _)) (ep:=ep) T.fits hl hm) ⟨?_,Heap.get?_push_of_some _ (Heap.get?_push_of_some _ hS),Heap.get?_push_of_some _ (Heap.get?_push_size _ rfl)⟩
  ·simp only[List.mem_cons,List.mem_nil_iff,or_false] at hb
   skip;rcases hb with rfl | rfl | rfl
   ·exact .inr (Nat.le_succ _)
   ·exact .inl rfl
   ·exact .inr (Nat.le_refl _)
  ·refine (hp.map _).trans ?_
   have:(List.range es.size).map (fun k=>(es.getD k (0,.none)).2)=es.toList.map (·.2):=by
    refine List.ext_getElem? fun i=>?_
    rw[List.getElem?_map,List.getElem?_map,Array.getElem?_toList (xs:=es)]
    by_cases hi:i < es.size
    ·rw[List.getElem?_range hi,Array.getElem?_eq_getElem hi,Option.map_some,Array.getD_eq_getD_getElem?,Array.getElem?_eq_getElem hi]
     rfl
    ·rw[List.getElem?_eq_none (l:=List.range es.size) (by rw[List.length_range];omega),Array.getElem?_eq_none (by omega)]
     rfl
   rw[this]
  ·have:=Heap.get?_push_size (s.heap.push (drO ps)) (o:=siD s.heap.objs.size 0 S es.size ep) rfl
   rw[n1] at this
   exact this
 ·have R:=jdg (w:=w) (t:=t) (n:=es.size) T.fits (fun hb=>by
   cases hp:t.plain with
   | true=>rfl
   | false=>simpa using fun z=>dr ⟨hb,hp,z⟩) T.ris T.size
  refine jgo hS R ?_
  have ne:S≠s.heap.objs.size:=Nat.ne_of_lt lS
  refine h _ [s.heap.objs.size,S] _ s.drawn ((j9g w S ep es).toList.map (·.2)) (fun i g=>i≤es.size∧g.get? s.heap.objs.size=some (siObj (fsOf w (fun i=>if i=0 then 0 else t.place.getD (i-1) 0+1) i) i S es.size ep)∧g.get? S=some (stObj es ep t)) (Nat.le_refl _) (fun b o e=>Heap.get?_push_of_some _ e) (fun b hb=>?_) ((jam w S ep es).map _) (fun A' h'=>?_) ⟨Nat.zero_le _,?_,Heap.get?_push_of_some _ hS⟩
  ·simp only[List.mem_cons,List.mem_nil_iff,or_false] at hb
   rcases hb with rfl | rfl
   ·exact .inr (Nat.le_refl _)
   ·exact .inl rfl
  ·have W:=jdf (prog:=prog) h' s.heap.objs.size S ne (ep:=ep) R hled
   have e:(fun (i:Nat) (v:Value)=>((j9g w S ep es).toList.map (·.2))[i]?=some v)=(fun i v=>((j9g w S ep es)[i]?).map (·.2)=some v):=by
    funext i v
    rw[List.getElem?_map,Array.getElem?_toList]
   rw[e]
   exact W
  ·have z0:fsOf w (fun i=>if i=0 then 0 else t.place.getD (i-1) 0+1) 0=0:=by unfold fsOf;simp
   rw[z0]
   exact Heap.get?_push_size _ rfl
theorem j93 {S:Addr}{es:Array (Int × Value)}{ep:Nat}{t:SetTable}{Q:List Value→Shared→Prop} (hh:A.handled=none) (hS:s.heap.get? S=some (stObj es ep t)) (T:Tab t es) (hled:t.led=!byT w) (hz:es.size≤sizeLine)
  (hQ:∀ (s':Shared) (d:Drawn) (ord:List Value),Moved [] (fun a b=>b=a) { s with drawn:=d } s'→ord.Perm (es.toList.map (·.2))→Q ord s'):wpAny (model prog w) A (collect (.ref S)) Q E s:=by
 have lS:S < s.heap.objs.size:=Heap.lt_size hS
 have nd:s.heap.objs.size≠S:=Nat.ne_of_gt lS
 skip;unfold collect;refine wpAny_bind (wpAny_runValue (codeAny_builtin F.entry_proto_collect ?_));rw[Around.under_plainId F.plain_proto_collect _]
 show wpAny _ A.in1 (newList [] >>= fun x=>again (.builtin "list.__iadd__" ⟨[x,.ref S],[]⟩)) _ _ s
 skip;refine wpAny_bind (wpAny_newObj_type (wpAny_pure ⟨plainId_quiet F.plain_list_iadd _,codeAny_builtin F.entry_list_iadd ?_⟩));rw[Around.under_plainId F.plain_list_iadd _]
 generalize hh0:s.heap.push { cls:=.type "list",data:=.seq ([]:List Value).toArray }=g0
 have d1:g0.get? S=some (stObj es ep t):=by rw[← hh0];exact Heap.get?_push_of_some _ hS
 have S1:g0.get? s.heap.objs.size=some { cls:=.type "list",data:=.seq ([]:List Value).toArray }:=by rw[← hh0];exact Heap.get?_push_size _ rfl
 have k1:∀ b o,s.heap.get? b=some o→g0.get? b=some o:=fun b o e=>by rw[← hh0];exact Heap.get?_push_of_some _ e
 have n1:g0.objs.size=s.heap.objs.size+1:=by rw[← hh0,Heap.size_push]
 have same:Builtin.List.listSameRef (.ref s.heap.objs.size) (.ref S)=false:=by simp[Builtin.List.listSameRef,nd]
 skip;show wpAny _ A.in1 (Builtin.List.listExtendWith (.ref s.heap.objs.size) (.ref S) (.ref s.heap.objs.size)) _ _ _;unfold Builtin.List.listExtendWith
 refine wpAny_bind (wpAny_typeOf (T:="set") ⟨_,d1,rfl⟩ ?_)
 rw[if_neg (by rw[same];decide)]
 refine wpAny_bind (jax (s:={ s with heap:=g0 }) d1 T hled hz fun I fp g1 d ord St hI kk hfp hp W st0=>wpAny_bind (wpAny_holding ?_))
 replace hI:s.heap.objs.size+1≤I:=by rw[← n1];exact hI
 replace hfp:∀ b∈fp,b=S∨s.heap.objs.size+1≤b:=fun b hb=>by rw[← n1];exact hfp b hb
 have d2:=kk S _ d1
 have S2:=kk _ _ S1
 have te:Shared.TypeIs { s with heap:=g1,drawn:=d } (.ref S) "set":=⟨_,d2,rfl⟩
 skip;unfold Builtin.List.listLengthHint;refine wpAny_bind (wpAny_specialOf (T:="set") te PySem.F.slot_set_len.lookup ?_)
 (generalize hid:("set.__len__":String)=id0;(fail_if_success (clear hid id0));wp_delta;rw[show splitId id0=some ("set","__len__") from by subst hid;decide +kernel];subst hid)
 refine wpAny_bind (wpAny_isInstance (T:="set") (b:=true) te st_sub ?_)
 rw[if_neg (by decide)];rw[if_pos (by decide +kernel)]
 refine wpAny_bind (wpAny_typeOf (T:="set") te (wpAny_pure ?_))
 rw[if_pos (by decide +kernel)]
 refine wpAny_bind (wpAny_rule (wpAny_bind ?_))
 have S3:=Heap.get?_update_self (Obj.mapSeq (·.push Value.none)) S2 rfl
 skip;show wpAny _ A.in1 (updateSeq s.heap.objs.size (·.push .none) >>= fun _=>updateSeq s.heap.objs.size (·.pop)) _ _ _;refine wpAny_bind (wpAny_updateSeq S2 rfl (wpAny_updateSeq S3 rfl ?_))
 have S4:=Heap.get?_update_self (Obj.mapSeq (·.pop)) S3 rfl
 have oth:∀ b o,b≠s.heap.objs.size→g1.get? b=some o→((g1.update s.heap.objs.size (Obj.mapSeq (·.push Value.none))).update s.heap.objs.size (Obj.mapSeq (·.pop))).get? b=some o :=
  fun b o nb e=>(Heap.get?_update_other _ _ (Ne.symm nb)).trans ((Heap.get?_update_other _ _ (Ne.symm nb)).trans e)
 have nS:s.heap.objs.size∉fp:=fun z=>by
  rcases hfp _ z with q | q
  ·exact nd q
  ·omega
 have W1:=(W A.in1 hh).toS
 refine wpAny_pure ⟨plainId_quiet F.plain_extend_loop _,codeAny_extend_loopS W1 hz _ nS _ es.size 0 _ _ _ rfl (Nat.zero_le _) ((W A.in1 hh).frame _ _ _ st0 fun b hb o e=>oth b o (fun z=>nS (by rw[← z];exact hb)) e) S4 (ItemsOf.nil _) fun s' acc' c' hm hS' hacc=>wpAny_bind (wpAny_load hS' (wpAny_pure ?_))⟩
 have ea:acc'.toList=ord:=j5t (P:=fun i v=>ord[i]?=some v) (by rw[hp.length_eq,List.length_map,Array.length_toList];exact hacc) fun i v hv=>hv
 have:=hQ s' d ord ⟨fun b o _ e=>?_,hm.gens,hm.drawn,hm.os,hm.toks⟩ hp
 ·rw[← ea] at this
  exact this
 ·have lb:=Heap.lt_size e
  replace lb:b < s.heap.objs.size:=lb
  refine hm.heap b o (fun q=>?_) (oth b o (Nat.ne_of_lt lb) (kk b o (k1 b o e)))
  rcases List.mem_cons.mp q with q | q
  ·exact Nat.ne_of_lt lb q
  ·rw[List.mem_singleton.mp q] at lb
   exact absurd (Nat.lt_of_lt_of_le lb (Nat.le_of_succ_le hI)) (Nat.lt_irrefl _)
end
section
variable {prog:Program}{w:World}{A:Around}{E:Value→Shared→Prop}{s:Shared}
theorem jdh {α:Type}{c:Prop} [Decidable c] {m:Sem Bool}{f:Bool→Sem α}{g:Sem α}{Q:α→Shared→Prop} (hm:∀ Q:Bool→Shared→Prop,(∀ b,Q b s)→wpAny (model prog w) A m Q E s) (hg:g=(pure true >>= f)) (K:∀ b,wpAny (model prog w) A (f b) Q E s):wpAny (model prog w) A (if c then m >>= f else g) Q E s:=by
 by_cases hc:c
 ·rw[if_pos hc];exact wpAny_bind (hm _ K)
 ·rw[if_neg hc,hg];exact wpAny_bind (wpAny_pure (K true))
theorem jgq {S a:Addr}{es:Array (Int × Value)}{ep:Nat}{t:SetTable}{hash:Int}{K:Type} [DecidableEq K] {key:Nat→K}{k:K}{Q:Bool→Shared→Prop} (hS:s.heap.get? S=some (stObj es ep t)) (T:Tab t es) (hb:es.size < 18) (H:Asks prog w A E s es (.ref a) hash key k)
  (hv:∀ Q:Bool→Shared→Prop,(∀ b,Q b s)→wpAny (model prog w) A (hashByValue 8 (.ref a)) Q E s)
  (h1:(∃ i,i < es.size∧key i=k)→Q false s)
  (h2:(∀ i,i < es.size→key i≠k)→∀ h' es' t' ep',Heap.SameBut S s.heap h'→h'.get? S=some (stObj es' ep' t')→Tab t' es'→t'.led=t.led→es'.toList.Perm ((hash,.ref a) :: es.toList)→Q true { s with heap:=h' }) :
  wpAny (model prog w) A (setAddHashed S (.ref a) hash) Q E s:=by
 obtain⟨e0,e1,e2⟩:=T.free
 obtain⟨N,m1,m2⟩:=meets T.mask hash e1
 skip;unfold setAddHashed setAddHashedIn
 refine wpAny_holding (wpAny_bind (wpAny_setState_of hS rfl T.fits ?_))
 dsimp only
 rw[show byScan (.ref a) es=false from rfl,if_neg (by decide)]
 refine wpAny_bind ?_
 unfold setSearch
 have mk:t.mask≤31:=by rcases T.mask with h | h <;> omega
 refine j4s hS T H (fun q=>?_) (fun q r n1 n2 n3=>?_) 100000 0 ⟨N,by omega,m1,by omega,by rw[m2];exact e2⟩ (fun q hq=>by omega) none (.inr ⟨rfl,rfl⟩)
 ·exact wpAny_pure (h1 q)
 ·dsimp only
  refine wpAny_bind (wpAny_setState_of hS rfl T.fits ?_)
  dsimp only
  have pu:t.put (pth t.mask hash r).j=({ t with place:=SetTable.insertAt t.place (SetTable.below t.place (pth t.mask hash r).j) (pth t.mask hash r).j },SetTable.below t.place (pth t.mask hash r).j):=by
   unfold SetTable.put
   rw[T.dum]
   have:SetTable.has #[] (pth t.mask hash r).j=false:=by unfold SetTable.has;simp
   rw[this]
   simp[T.dum]
  rw[pu]
  dsimp only
  refine jdh (c:=t.plain=true) hv rfl fun bv=>?_
  obtain⟨pl,epl⟩:∃ pl,(if bv=true then ({ t with place:=SetTable.insertAt t.place (SetTable.below t.place (pth t.mask hash r).j) (pth t.mask hash r).j }:SetTable) else { t with place:=SetTable.insertAt t.place (SetTable.below t.place (pth t.mask hash r).j) (pth t.mask hash r).j,plain:=false })={ t with place:=SetTable.insertAt t.place (SetTable.below t.place (pth t.mask hash r).j) (pth t.mask hash r).j,plain:=pl }:=by
   cases bv with
   | true=>exact⟨t.plain,rfl⟩
   | false=>exact⟨false,rfl⟩
  rw[epl]
  have ip:=j47 es (SetTable.below t.place (pth t.mask hash r).j) (hash,Value.ref a)
  have isz:(SetTable.insertAt es (SetTable.below t.place (pth t.mask hash r).j) (hash,Value.ref a)).size=es.size+1:=by rw[← Array.length_toList,ip.length_eq,List.length_cons,Array.length_toList]
  have pp:=j47 t.place (SetTable.below t.place (pth t.mask hash r).j) (pth t.mask hash r).j
  have psz:(SetTable.insertAt t.place (SetTable.below t.place (pth t.mask hash r).j) (pth t.mask hash r).j).size=es.size+1:=by rw[← Array.length_toList,pp.length_eq,List.length_cons,Array.length_toList,T.size]
  refine wpAny_bind (wpAny_storeSet_of hS rfl ?_ (by rw[isz,sizeLine_eq];omega))
  generalize ht:({ t with place:=SetTable.insertAt t.place (SetTable.below t.place (pth t.mask hash r).j) (pth t.mask hash r).j,plain:=pl }:SetTable)=t1
  generalize he:SetTable.insertAt es (SetTable.below t.place (pth t.mask hash r).j) (hash,Value.ref a)=es1 at ip isz
  have o1:(s.heap.update S (Obj.putSet es1 t1)).get? S=some (stObj es1 (ep+1) t1):=Heap.get?_update_self _ hS rfl
  have s1:Heap.SameBut S s.heap (s.heap.update S (Obj.putSet es1 t1)):=Heap.SameBut.update ..
  have l1:t1.led=t.led:=by rw[← ht]
  have tf:t1.tooFull=decide ((es.size+1) * 5≥t.mask * 3):=by
   rw[← ht]
   unfold SetTable.tooFull SetTable.fill
   show decide (((SetTable.insertAt t.place _ _).size+t.dummies.size) * 5≥t.mask * 3)=_
   rw[psz,T.dum]
   rfl
  by_cases full:(es.size+1) * 5≥t.mask * 3
  ·rw[tf,decide_eq_true full,if_pos (by decide)]
   have hm:t.mask=7:=by rcases T.mask with h | h <;> omega
   have hn:es.size=4:=by have:=T.room;omega
   have f1:t1.fits es1.size=true:=by
    rw[← ht,isz]
    unfold SetTable.fits SetTable.fill
    show ((SetTable.insertAt t.place _ _).size == _ && decide ((SetTable.insertAt t.place _ _).size+t.dummies.size≤t.mask))=true
    rw[psz,T.dum,hm,hn]
    rfl
   have wn:SetTable.sizeAbove (SetTable.grown (es.size+1))=32:=by rw[hn];decide +kernel
   obtain⟨t2,ord,r1,r2,r3,r4,r5,r6⟩:=jdb (t:=t1) (es:=es1) wn (by omega)
   refine wpAny_bind ?_
   unfold setRelay
   refine wpAny_bind (wpAny_setState_of o1 rfl f1 ?_)
   dsimp only
   rw[wn,if_neg (by rw[sizeLine_eq];decide),r1]
   refine wpAny_bind ?_
   show wpAny _ _ (if (ord.filterMap (es1[·]?)).size != es1.size then _ else _) _ _ _
   rw[if_neg (by rw[r2];simp)]
   refine wpAny_pure ?_
   refine wpAny_storeSet_of o1 rfl ?_ (by rw[r2,isz,sizeLine_eq];omega)
   exact wpAny_pure (h2 q _ _ t2 _ (s1.trans (Heap.SameBut.update ..)) (Heap.get?_update_self _ o1 rfl) r4 (r5.trans l1) (r3.trans ip))
  ·rw[tf,decide_eq_false full,if_neg (by decide)]
   refine wpAny_pure (h2 q _ _ t1 _ s1 o1 ?_ l1 ip)
   have T1:=jjl (x:=Value.ref a) T n1 n2 n3 (by omega)
   rw[he] at T1
   rw[← ht]
   exact⟨T1.mask,T1.dum,T1.ris,T1.size,T1.room,T1.top,T1.way⟩
end
section
variable {prog:Program}{w:World}{A:Around}{E:Value→Shared→Prop}{s:Shared}
theorem j5v {ks:List Str}{vs:List Value} (h:ItemsAre (PySem.strKind prog w) ks vs):∀ v∈vs,∃ n t,v=.str n t:=by
 induction h with
 | nil=>exact fun v hv=>by simp at hv
 | @cons k v' ks vs h1 _ ih =>
  intro v hv
  skip;rcases List.mem_cons.mp hv with rfl | hv
  ·obtain⟨t,e⟩:=Value.isStrOf_shape h1
   exact⟨_,t,e⟩
  ·exact ih v hv
theorem jjw {ks:List Str}{a:Addr}{Q:Bool→Shared→Prop} (hk:IsTupleKey (PySem.strKind prog w) s.heap ks a) (h:∀ b,Q b s):wpAny (model prog w) A (hashByValue 8 (.ref a)) Q E s:=by
 have hT:=hk.typeIs
 skip;obtain⟨o,items,n,ho,_,hd,hi⟩:=hk
 unfold hashByValue
 refine wpAny_bind (wpAny_specialOf hT PySem.F.slot_tuple_hash.lookup ?_)
 dsimp only
 skip;refine wpAny_bind (wpAny_seqItems ho hd ?_)
 refine wpAny_bind ?_
 skip;show wpAny _ _ (forIn items _ _) _ _ s
 rw[← Array.forIn_toList]
 refine wpAny_forIn_list _ (fun rest r s'=>r.1=none∧s'=s∧∀ v∈rest,∃ n t,v=.str n t) _ ?_ ?_ _ _ ⟨rfl,rfl,j5v hi⟩
 ·rintro v rest r s' ⟨hr,rfl,all⟩
  obtain⟨m,t,rfl⟩:=all v List.mem_cons_self
  refine wpAny_bind (m:=hashByValue 7 (.str m t)) (wpAny_of_eq (a:=false) (by unfold hashByValue;rfl) ?_)
  skip;simp only[Bool.not_false,if_true]
  exact wpAny_pure (wpAny_pure (h false))
 ·skip;rintro⟨r1,r2⟩ s' ⟨hr,rfl,_⟩
  simp only at hr
  subst hr
  exact wpAny_pure (h true)
theorem jf5 {ks:List Str}{a:Addr}{Q:Bool→Shared→Prop} (hk:IsTupleKey (PySem.strKind prog w) s.heap ks a) (h:Q false s):wpAny (model prog w) A (ofAClassStatement 8 (.ref a)) Q E s:=by
 have hT:=hk.typeIs
 skip;obtain⟨o,items,n,ho,_,hd,hi⟩:=hk
 unfold ofAClassStatement
 refine wpAny_bind (wpAny_typeOf (T:="tuple") hT ?_)
 dsimp only
 rw[if_pos (by decide)]
 refine wpAny_bind (wpAny_pure ?_)
 skip;simp only[Bool.not_true,Bool.false_eq_true,if_false]
 skip;refine wpAny_bind (wpAny_seqItems ho hd ?_)
 refine wpAny_bind ?_
 skip;show wpAny _ _ (forIn items _ _) _ _ s
 rw[← Array.forIn_toList]
 refine wpAny_forIn_list _ (fun rest r s'=>r.1=none∧s'=s∧∀ v∈rest,∃ n t,v=.str n t) _ ?_ ?_ _ _ ⟨rfl,rfl,j5v hi⟩
 ·rintro v rest r s' ⟨hr,rfl,all⟩
  obtain⟨m,t,rfl⟩:=all v List.mem_cons_self
  refine wpAny_bind (m:=ofAClassStatement 7 (.str m t)) (wpAny_of_eq (a:=false) (by unfold ofAClassStatement;rfl) ?_)
  skip;simp only[Bool.false_eq_true,if_false]
  exact wpAny_pure ⟨rfl,rfl,fun u hu=>all u (List.mem_cons_of_mem _ hu)⟩
 ·skip;rintro⟨r1,r2⟩ s' ⟨hr,rfl,_⟩
  simp only at hr
  subst hr
  exact wpAny_pure h
theorem jdi {ks:List Str}{a:Addr} (hk:IsTupleKey (PySem.strKind prog w) s.heap ks a) {l:List Value} (hl:∀ y∈l,∃ b M,y=.ref b∧IsTupleKey (PySem.strKind prog w) s.heap M b) {Q:Bool→Shared→Prop} (h:Q false s):wpAny (model prog w) A (searchCouldBeSeen (.ref a) l) Q E s:=by
 unfold searchCouldBeSeen
 refine wpAny_bind ?_
 refine wpAny_forIn_list _ (fun rest r s'=>r.1=none∧s'=s∧∀ y∈rest,∃ b M,y=.ref b∧IsTupleKey (PySem.strKind prog w) s.heap M b) _ ?_ ?_ _ _ ⟨rfl,rfl,hl⟩
 ·rintro y rest r s' ⟨hr,rfl,all⟩
  obtain⟨b,M,rfl,hb⟩:=all y List.mem_cons_self
  have fin:∀ u∈rest,∃ b M,u=.ref b∧IsTupleKey (PySem.strKind prog w) s'.heap M b:=fun u hu=>all u (List.mem_cons_of_mem _ hu)
  dsimp only
  by_cases e:(a == b)=true
  ·rw[e]
   simp only[Bool.true_or,if_true]
   exact wpAny_pure ⟨rfl,rfl,fin⟩
  ·rw[Bool.not_eq_true] at e
   rw[e]
   rw[if_neg (by simp[carriedByValue])]
   refine wpAny_bind (wpAny_eqIsQuiet_tuple hk ?_)
   skip;simp only[Bool.not_true,Bool.false_eq_true,if_false]
   refine wpAny_bind (wpAny_eqIsQuiet_tuple hb ?_)
   skip;simp only[Bool.not_true,Bool.false_eq_true,if_false]
   refine wpAny_bind (jf5 hk ?_)
   skip;simp only[Bool.false_eq_true,if_false]
   refine wpAny_bind (jf5 hb ?_)
   skip;simp only[Bool.false_eq_true,if_false]
   exact wpAny_pure ⟨rfl,rfl,fin⟩
 ·skip;rintro⟨r1,r2⟩ s' ⟨hr,rfl,_⟩
  simp only at hr
  subst hr
  exact wpAny_pure h
def jo7 (prog:Program) (w:World) (Z:Addr→List Str→Prop) (h:Heap) (e:Int × Value) (L:List Str):Prop:=∃ a,e.2=.ref a∧IsTupleKey (PySem.strKind prog w) h L a∧e.1=tupleKeyHash (PySem.strKind prog w) L∧Z a L
inductive RowsET (prog:Program) (w:World) (Z:Addr→List Str→Prop) (h:Heap):List (Int × Value)→List (List Str)→Prop
 | nil:RowsET prog w Z h [] []
 | cons {e:Int × Value}{L:List Str}{es:List (Int × Value)}{Ls:List (List Str)}:jo7 prog w Z h e L→RowsET prog w Z h es Ls→RowsET prog w Z h (e :: es) (L :: Ls)
theorem RowsET.length {Z:Addr→List Str→Prop}{h:Heap}{es:List (Int × Value)}{Ls:List (List Str)} (r:RowsET prog w Z h es Ls):es.length=Ls.length:=by
 induction r with
 | nil=>rfl
 | cons _ _ ih=>simp[ih]
theorem RowsET.get {Z:Addr→List Str→Prop}{h:Heap}{es:List (Int × Value)}{Ls:List (List Str)} (r:RowsET prog w Z h es Ls):∀ (i:Nat) (hi:i < es.length),jo7 prog w Z h es[i] (Ls.getD i []):=by
 induction r with
 | nil=>exact fun i hi=>by simp at hi
 | cons e _ ih =>
  intro i hi
  cases i with
  | zero=>simpa using e
  | succ i=>simpa using ih i (by simpa using hi)
theorem RowsET.perm {Z:Addr→List Str→Prop}{h:Heap}{us es:List (Int × Value)} (p:us.Perm es):∀ {Ls:List (List Str)},RowsET prog w Z h es Ls→∃ Ms,RowsET prog w Z h us Ms∧Ms.Perm Ls:=by
 induction p with
 | nil=>intro Ls r;exact⟨Ls,r,List.Perm.refl _⟩
 | cons x _ ih =>
  intro Ls r
  cases r with
  | cons e r =>
   obtain⟨m,a,b⟩:=ih r
   exact⟨_,.cons e a,b.cons _⟩
 | swap x y l =>
  intro Ls r
  cases r with
  | cons e r =>
   cases r with
   | cons e2 r2=>exact⟨_,.cons e2 (.cons e r2),List.Perm.swap _ _ _⟩
 | trans _ _ i1 i2 =>
  intro Ls r
  obtain⟨m,a,b⟩:=i2 r
  obtain⟨m2,a2,b2⟩:=i1 a
  exact⟨m2,a2,b2.trans b⟩
theorem j2v {h h':Heap}{L:List Str}{a:Addr} (k:IsTupleKey (PySem.strKind prog w) h L a) (e:∀ o,o.cls=.type "tuple"→h.get? a=some o→h'.get? a=some o):IsTupleKey (PySem.strKind prog w) h' L a:=by
 obtain⟨o,items,n,ho,hc,r⟩:=k
 exact⟨o,items,n,e o hc ho,hc,r⟩
theorem RowsET.kept {Z:Addr→List Str→Prop}{h h':Heap}{es:List (Int × Value)}{Ls:List (List Str)} (r:RowsET prog w Z h es Ls) (e:∀ b o,o.cls=.type "tuple"→h.get? b=some o→h'.get? b=some o):RowsET prog w Z h' es Ls:=by
 induction r with
 | nil=>exact .nil
 | cons x _ ih =>
  obtain⟨a,x1,x2,x3⟩:=x
  exact .cons ⟨a,x1,j2v x2 (e a),x3⟩ ih
theorem jay {Z:Addr→List Str→Prop}{es:Array (Int × Value)}{Ls:List (List Str)}{L:List Str}{a:Addr} (hu:A.units < cLine) (r:RowsET prog w Z s.heap es.toList Ls) (hk:IsTupleKey (PySem.strKind prog w) s.heap L a):Asks prog w A E s es (.ref a) (tupleKeyHash (PySem.strKind prog w) L) (fun i=>Ls.getD i []) L:=by
 have at_:∀ (i:Nat) (hi:i < es.size),jo7 prog w Z s.heap es[i] (Ls.getD i []):=fun i hi=>by
  have:=r.get i (by rw[Array.length_toList];exact hi)
  simpa using this
 refine⟨fun i hi e=>?_,fun i hi Q q=>?_,fun i hi=>?_,fun l hl Q q=>?_⟩
 ·obtain⟨b,x1,x2,x3⟩:=at_ i hi
  rw[x3.1,e]
 ·obtain⟨b,x1,x2,x3⟩:=at_ i hi
  rw[x1]
  exact wpAny_eqBool_tuple hu x2 hk q
 ·obtain⟨b,x1,_⟩:=at_ i hi
  exact⟨b,x1⟩
 ·refine jdi hk (fun y hy=>?_) q
  obtain⟨i,hi,e⟩:=hl y hy
  obtain⟨b,x1,x2,_⟩:=at_ i hi
  exact⟨b,_,by rw[e,x1],x2⟩
end
def j3d (prog:Program) (w:World) (Z:Addr→List Str→Prop) (h0 h:Heap) (S:Addr) (Ms:List (List Str)):Prop :=
 ∃ es ep t,h.get? S=some (stObj es ep t)∧Tab t es∧t.led=(!byT w)∧RowsET prog w Z h0 es.toList Ms∧Ms.Nodup
section
variable {w:World}{prog:Program}{A:Around}
variable {R:Result→Shared→Prop}{I:Addr}{fp wr:List Addr}{G:Array GenState→Array GenState→Prop}{n:Nat}{P:Nat→Value→Prop}{St:Nat→Shared→Prop}
theorem j0v {Ms:List (List Str)}{L:List Str}:(∃ i,i < Ms.length∧Ms.getD i []=L)↔L∈Ms:=by
 constructor
 ·rintro⟨i,hi,e⟩
  rw[List.getD_eq_getElem?_getD,List.getElem?_eq_getElem hi] at e
  rw[← e]
  exact List.getElem_mem hi
 ·intro h
  obtain⟨i,hi,e⟩:=List.getElem_of_mem h
  exact⟨i,hi,by rw[List.getD_eq_getElem?_getD,List.getElem?_eq_getElem hi];exact e⟩
theorem jaz {Z:Addr→List Str→Prop} (W:WalksS prog w A.in1 I fp wr G n P St) (hu:A.in1.units < cLine) (S:Addr) (hSf:S∉fp) (Ls:List (List Str)) (hn:Ls.length=n) (hb:n≤18) (h0:Heap) (hrow:∀ i v,P i v→∃ a,v=.ref a∧IsTupleKey (PySem.strKind prog w) h0 (Ls.getD i []) a∧Z a (Ls.getD i []))
  (hnt:∀ b o,b∈S :: wr→h0.get? b=some o→o.cls≠.type "tuple") :
  ∀ (k i:Nat) (s:Shared) (Ms:List (List Str)),n-i=k→i≤n→St i s→(∀ b o,o.cls=.type "tuple"→h0.get? b=some o→s.heap.get? b=some o)→j3d prog w Z h0 s.heap S Ms→Ms.length≤i→(∀ L,L∈Ms↔L∈Ls.take i) →
   (∀ s' Ms',Moved (S :: wr) G s s'→j3d prog w Z h0 s'.heap S Ms'→Ms'.length≤n→(∀ L,L∈Ms'↔L∈Ls)→R (.ok (.ret .none)) s') →
   codeAny (model prog w) A (Code.builtin "set.update.loop" ⟨[.ref S,.ref I],[]⟩) R s:=by
 skip;have hSw:S∉wr:=fun h=>hSf (W.sub _ h)
 have sub2:∀ b∈wr,b∈S :: wr:=fun b hb=>List.mem_cons_of_mem _ hb
 intro k
 induction k with
 | zero =>
  intro i s Ms hk hi hst hT hS hl hM hR
  obtain rfl:i=n:=by omega
  refine codeAny_builtin PyProof.Rows.F.entry_set_update_loop ?_;rw[Around.under_plainId PyProof.Rows.F.plain_set_update_loop _]
  show wpAny _ A.in1 (pyNext (.ref I) >>= _) _ _ s;refine wpAny_bind (W.done s _ _ hst fun s' hm=>?_)
  obtain⟨es,ep,t,g,r⟩:=hS
  exact wpAny_pure (hR s' Ms (hm.mono sub2) ⟨es,ep,t,hm.heap S _ hSw g,r⟩ hl (by rw[← hn,List.take_length] at hM;exact hM))
 | succ k ih =>
  intro i s Ms hk hi hst hT hS hl hM hR
  have hlt:i < n:=by omega
  refine codeAny_builtin PyProof.Rows.F.entry_set_update_loop ?_;rw[Around.under_plainId PyProof.Rows.F.plain_set_update_loop _]
  show wpAny _ A.in1 (pyNext (.ref I) >>= _) _ _ s;refine wpAny_bind (W.item i s _ _ hlt hst fun v s' hP hst' hm=>?_)
  obtain⟨a,rfl,hka,hza⟩:=hrow i v hP
  obtain⟨es,ep,t,g,T,l,r,nd⟩:=hS
  have hT':∀ b o,o.cls=.type "tuple"→h0.get? b=some o→s'.heap.get? b=some o:=fun b o c e=>hm.heap b o (fun z=>hnt b o (List.mem_cons_of_mem _ z) e c) (hT b o c e)
  have hk':=j2v hka (hT' a)
  have g':=hm.heap S _ hSw g
  have rl:=r.length
  rw[Array.length_toList] at rl
  have tk:Ls.take (i+1)=Ls.take i++[Ls.getD i []]:=by
   rw[List.take_add_one,List.getD_eq_getElem?_getD,List.getElem?_eq_getElem (by omega)]
   rfl
  show wpAny _ A.in1 (holding [Value.ref a] (setAdd S (.ref a)) >>= _) _ _ s'
  refine wpAny_bind (wpAny_holding ?_);unfold setAdd;refine wpAny_holding ?_
  refine wpAny_bind (wpAny_pyHash_tuple hu hk' ?_)
  have ht':s'.toks≤s'.toks+((Ls.getD i []).length+1):=by omega
  generalize s'.toks+((Ls.getD i []).length+1)=tk' at ht' ⊢
  refine jgq (s:={ s' with toks:=tk' }) g' T (by omega) (jay (s:={ s' with toks:=tk' }) hu (r.kept hT') hk') (fun Q q=>jjw (s:={ s' with toks:=tk' }) hk' q) (fun hin=>?_) (fun hno h' es' t' ep' sb g2 T2 l2 pm=>?_)
  ·have hin':Ls.getD i []∈Ms:=by
    obtain⟨j,hj,e⟩:=hin
    exact j0v.mp ⟨j,by omega,e⟩
   refine wpAny_pure ⟨plainId_quiet PyProof.Rows.F.plain_set_update_loop _,ih (i+1) _ Ms (by omega) hlt (W.frame _ s' _ _ hst' ht' fun b hb o e=>e) hT' ⟨es,ep,t,g',T,l,r,nd⟩ (by omega) (fun L=>?_) fun s'' Ms' hm'' hS'' hl'' hM''=>?_⟩
   ·rw[tk,List.mem_append,List.mem_singleton,hM]
    exact⟨.inl,fun z=>z.elim id fun e=>by rw[e,← hM];exact hin'⟩
   ·exact hR s'' Ms' (Moved.trans W.gtrans ((hm.mono sub2).then_heap ht' fun b o hb e=>e) hm'') hS'' hl'' hM''
  ·have hno':Ls.getD i []∉Ms:=fun z=>by
    obtain⟨j,hj,e⟩:=j0v.mpr z
    exact hno j (by omega) e
   obtain⟨Ms',r2,pm2⟩:=RowsET.perm (prog:=prog) (w:=w) (h:=h0) pm (.cons ⟨a,rfl,hka,rfl,hza⟩ r)
   have sbk:∀ b o,b≠S→s'.heap.get? b=some o→h'.get? b=some o:=fun b o z e=>by rw[sb.2 b z];exact e
   refine wpAny_pure ⟨plainId_quiet PyProof.Rows.F.plain_set_update_loop _,ih (i+1) _ Ms' (by omega) hlt (W.frame _ s' _ _ hst' ht' fun b hb o e=>sbk b o (fun z:b=S=>hSf (by rw[← z];exact hb)) e) (fun b o c e=>sbk b o (fun z=>hnt b o (by rw[z];exact List.mem_cons_self) e c) (hT' b o c e)) ⟨es',ep',t',g2,T2,l2.trans l,r2,pm2.nodup_iff.mpr (List.nodup_cons.mpr ⟨hno',nd⟩)⟩ (by rw[pm2.length_eq,List.length_cons];omega) (fun L=>?_) fun s'' Ms'' hm'' hS'' hl'' hM''=>?_⟩
   ·rw[tk,List.mem_append,List.mem_singleton,pm2.mem_iff,List.mem_cons,hM]
    exact⟨fun z=>z.symm,fun z=>z.symm⟩
   ·refine hR s'' Ms'' (Moved.trans W.gtrans ((hm.mono sub2).then_heap ht' fun b o hb e=>?_) hm'') hS'' hl'' hM''
    exact sbk b o (fun z=>hb (by rw[z];exact List.mem_cons_self)) e
end
section
variable {prog:Program}{w:World}{A:Around}{E:Value→Shared→Prop}{s:Shared}
set_option maxHeartbeats 8000000 in
theorem jb0 {Z:Addr→List Str→Prop}{l:Addr}{items:Array Value}{Ls:List (List Str)}{Q:Value→Shared→Prop} (hh:A.handled=none) (hu:A.in1.in1.in1.units < cLine) (hl:s.heap.IsList l items) (hz:Ls.length=items.size) (hi:∀ (i:Nat) (v:Value),items[i]?=some v→∃ a,v=.ref a∧IsTupleKey (PySem.strKind prog w) s.heap (Ls.getD i []) a∧Z a (Ls.getD i [])) (hb:items.size≤18)
  (h:∀ (h':Heap) (tk:Nat) (Ms:List (List Str)),j3d prog w Z s.heap h' s.heap.objs.size Ms→Ms.length≤items.size→(∀ L,L∈Ms↔L∈Ls)→(∀ b o,b < s.heap.objs.size→s.heap.get? b=some o→h'.get? b=some o)→Q (.ref s.heap.objs.size) { s with heap:=h',toks:=tk }) :
  wpAny (model prog w) A (call (Value.type "set") [.ref l]) Q E s:=by
 obtain⟨c,tl,hmro⟩:=PySem.F.called_set.mro
 have hmade:=PySem.F.called_set.made
 have hsub:=PySem.F.called_set.sub
 refine wpAny_call (codeAny_of_tree ?_);show wpAny _ _ (callAny (.type "set") _) _ _ _;refine wpAny_pure ⟨Code.quiet_builtin _ (by decide +kernel),codeAny_builtin PySem.F.entry_type_call ?_⟩
 skip;rw[Around.under_plain (weight_type_call_type "set" [.ref l] []) rfl]
 have h1:=PySem.F.called_set.notType
 have h2:=PySem.F.called_set.canCreate
 have hct:=PySem.F.typeCall_set_1 (.ref l)
 skip;repeat (any_goals (first | assumption | wp_step))
 refine codeAny_mono (jg7 (.ref l) (E:=E) (QN:=fun obj s₁=>obj=.ref s.heap.objs.size∧s₁={ s with heap:=s.heap.push (newSet (!byT w)) }) ⟨rfl,rfl⟩) fun r s₁ hr=>?_
 cases r with
 | error e=>exact hr
 | ok fl =>
  cases fl with
  | ret obj =>
   obtain⟨rfl,rfl⟩:=hr
   have hS:(s.heap.push (newSet (!byT w))).get? s.heap.objs.size=some (newSet (!byT w)):=Heap.get?_push_size _ rfl
   have hT:Shared.TypeIs { s with heap:=s.heap.push (newSet (!byT w)) } (.ref s.heap.objs.size) "set":=⟨_,hS,rfl⟩
   have hli:=PySem.F.called_set.init.lookup
   have hbi:=PySem.F.called_set.init.bind (.ref s.heap.objs.size)
   skip;repeat (any_goals (first | assumption | wp_step))
   refine codeAny_mono (codeAny_call_builtin (R:=wants (fun r s₂=>r=.none∧∃ h' tk Ms,s₂={ s with heap:=h',toks:=tk }∧j3d prog w Z s.heap h' s.heap.objs.size Ms∧Ms.length≤items.size∧(∀ L,L∈Ms↔L∈Ls)∧(∀ b o,b < s.heap.objs.size→s.heap.get? b=some o→h'.get? b=some o)) E) PySem.F.called_set.init.plain PySem.F.entry_set_init (check_set_init_1 hT ?_)) fun r₂ s₂ hr₂=>?_
   ·obtain⟨⟨ocls,odict,odata,oslots⟩,hol,hcl,nl,hdl⟩:=hl
    replace hcl:ocls=.type "list":=hcl
    replace hdl:odata=.seq items nl:=hdl
    subst hcl hdl
    have hol':(s.heap.push (newSet (!byT w))).get? l=some { cls:=.type "list",dict:=odict,data:=.seq items nl,slots:=oslots }:=Heap.get?_push_of_some _ hol
    have hsls:=PySem.F.sub_list_set
    have hslf:=PySem.F.sub_list_frozenset
    skip;have hne:(Value.type "list" == Value.type "dict")=false:=by decide
    have hl1:(s.heap.push (newSet (!byT w))).IsList l items:=⟨_,hol',rfl,nl,rfl⟩
    unfold Builtin.«set.__init__» noKeywords Builtin.Frozenset.updateFrom;generalize hPI:pyIter=PI;wp_walk;subst hPI
    refine wpAny_pyIter_list hl1 (wpAny_bind (wpAny_runValue ?_))
    skip;have hlS:l < s.heap.objs.size:=Heap.lt_size hol
    have hh3:A.in1.in1.in1.handled=none:=hh
    have hneI:l≠(s.heap.push (newSet (!byT w))).objs.size:=by rw[Heap.size_push];exact Nat.ne_of_lt (Nat.lt_succ_of_lt hlS)
    have hSf:s.heap.objs.size∉[(s.heap.push (newSet (!byT w))).objs.size,l]:=by
     rw[Heap.size_push];simp only[List.mem_cons,List.mem_nil_iff,or_false,not_or]
     skip;exact⟨Nat.ne_of_lt (Nat.lt_succ_self _),Nat.ne_of_gt hlS⟩
    have none_:∀ b,s.heap.objs.size≤b→s.heap.get? b=none:=fun b hb=>Heap.get?_none_of_le hb
    refine jaz ((Walks.list hh3 _ l hneI items).toS) hu s.heap.objs.size hSf Ls hz hb s.heap hi ?hnt (items.size-0) 0 _ [] (by omega) (Nat.zero_le _) ⟨⟨_,Heap.get?_push_size _ rfl,rfl,rfl⟩,hl1.push _⟩ ?hT ?hS0 (Nat.zero_le _) (fun L=>by simp) ?hR
    case hnt =>
     intro b o hb e
     skip;rcases List.mem_cons.mp hb with rfl | hb
     ·rw[none_ _ (Nat.le_refl _)] at e;cases e
     ·rw[List.mem_singleton.mp hb,none_ _ (by rw[Heap.size_push];exact Nat.le_succ _)] at e;cases e
    case hT=>exact fun b o _ e=>Heap.get?_push_of_some _ (Heap.get?_push_of_some _ e)
    case hS0=>exact⟨#[],0,_,Heap.get?_push_of_some _ hS,⟨.inl rfl,rfl,List.Pairwise.nil,rfl,by show 0 * 5 < 7 * 3;decide,fun j hj=>by simp[SetTable.fresh] at hj,fun i hi=>by simp at hi⟩,rfl,.nil,List.nodup_nil⟩
    case hR =>
     intro s' Ms' hm hS' hlen hmem
     obtain⟨h',g',d',t',o'⟩:=s'
     skip;have eg:g'=s.gens:=hm.gens
     skip;have ed:d'=s.drawn:=hm.drawn
     have eo:o'=s.os:=hm.os
     subst eg ed eo
     show wpAny _ _ _ _ _ _;refine wpAny_pure ?_;show wpAny _ _ (ret Value.none) _ _ _
     refine wpAny_pure ⟨rfl,h',t',Ms',rfl,hS',hlen,hmem,fun b o hb e=>?_⟩
     have hb2:b≠(s.heap.push (newSet (!byT w))).objs.size:=by rw[Heap.size_push];exact Nat.ne_of_lt (Nat.lt_succ_of_lt hb)
     refine hm.heap b o ?_ (Heap.get?_push_of_some _ (Heap.get?_push_of_some _ e))
     simp only[List.mem_cons,List.mem_nil_iff,or_false,not_or]
     exact⟨Nat.ne_of_lt hb,hb2⟩
   ·cases r₂ with
    | error e=>exact hr₂
    | ok fl₂ =>
     cases fl₂ with
     | ret r =>
      skip;obtain⟨rfl,h',tk,Ms,rfl,hS',hlen,hmem,hk'⟩:=hr₂
      skip;repeat (any_goals (first | assumption | wp_step))
      exact h _ _ _ hS' hlen hmem hk'
     | _=>exact hr₂.elim
  | _=>exact hr.elim
end
end L2
set_option Elab.async false
set_option linter.all false
set_option maxRecDepth 100000
set_option maxHeartbeats 4000000
namespace L2
open PySem PySem.Spec PyProof.Rows PySem.W
def cpm (L:List Str):List (List Nat):=L.map fun x=>x.cps.toList
theorem jjx {x y:Str} (h:x.cps.toList=y.cps.toList):x=y:=by
 cases x;cases y
 congr
 exact Array.toList_inj.mp h
theorem jb1:∀ {xs ys:List Str},cpm xs=cpm ys→xs=ys
 | [],[],_=>rfl
 | [],_ :: _,h=>by cases h
 | _ :: _,[],h=>by cases h
 | x :: xs,y :: ys,h=>by
  obtain⟨h1,h2⟩:=List.cons.inj h
  rw[jjx h1,jb1 h2]
inductive StrsV:List Value→List Str→Prop
 | nil:StrsV [] []
 | cons (n:Str) (t:Tok) {vs:List Value}{ns:List Str}:StrsV vs ns→StrsV (.str n t :: vs) (n :: ns)
theorem StrsV.length {vs:List Value}{ns:List Str} (r:StrsV vs ns):vs.length=ns.length:=by
 induction r with
 | nil=>rfl
 | cons _ _ _ ih=>simp[ih]
theorem jb2 {prog:Program}{w:World}{ks:List Str}{vs:List Value} (h:ItemsAre (PySem.strKind prog w) ks vs):StrsV vs ks:=by
 induction h with
 | nil=>exact .nil
 | @cons k v ks vs h1 _ ih =>
  obtain⟨t,e⟩:=Value.isStrOf_shape h1
  subst e
  exact .cons k t ih
theorem j3e {prog:Program}{w:World}:∀ {vs:List Value}{ks:List Str},StrsV vs ks→ItemsAre (PySem.strKind prog w) ks vs
 | _,_,.nil=>.nil
 | _,_,.cons n t r=>.cons (strKind_is _ _ _ _) (j3e r)
def lexT:List Str→List Str→Bool→Bool
 | x :: xs,y :: ys,e=>if x=y then lexT xs ys e else decide (x.cps.toList < y.cps.toList)
 | _,_,e=>e
theorem jem:∀ xs ys:List Str,lexT xs ys (decide (xs.length < ys.length))=decide (cpm xs < cpm ys)
 | [],[]=>by decide
 | [],y :: ys=>by
  show decide (0 < ys.length+1)=decide ([] < y.cps.toList :: cpm ys)
  rw[decide_eq_true (by omega),decide_eq_true (List.nil_lt_cons _ _)]
 | x :: xs,[]=>by
  show decide (xs.length+1 < 0)=decide (x.cps.toList :: cpm xs < [])
  rw[decide_eq_false (by omega),decide_eq_false (List.not_lt_nil _)]
 | x :: xs,y :: ys=>by
  show (if x=y then lexT xs ys (decide (xs.length+1 < ys.length+1)) else decide (x.cps.toList < y.cps.toList))=decide (x.cps.toList :: cpm xs < y.cps.toList :: cpm ys)
  have:=jem xs ys
  by_cases c:x=y
  ·subst c
   rw[if_pos rfl,decide_eq_decide.mpr (Nat.add_lt_add_iff_right),this]
   exact decide_eq_decide.mpr ⟨fun h=>List.cons_lt_cons_iff.mpr (.inr ⟨rfl,h⟩),fun h=>(List.cons_lt_cons_iff.mp h).elim (fun z=>absurd z (List.lt_irrefl _)) fun z=>z.2⟩
  ·rw[if_neg c]
   exact decide_eq_decide.mpr ⟨fun h=>List.cons_lt_cons_iff.mpr (.inl h),fun h=>(List.cons_lt_cons_iff.mp h).elim id fun z=>absurd (jjx z.1) c⟩
@[reducible] def rowOrdT:KeyOrd where
 α:=List (List Nat)
 blt a b:=decide (a < b)
 irrefl x:=by simpa using List.lt_irrefl x
 trans x y z h1 h2:=by simp only[decide_eq_true_eq] at *;exact List.lt_trans h1 h2
 negTrans a b c h:=by
  skip;simp only[decide_eq_true_eq] at *
  by_cases hab:a < b
  ·exact .inl hab
  ·skip;exact .inr (List.lt_of_le_of_lt (List.not_lt.mp hab) h)
 total x y h1 h2:=by simp only[decide_eq_false_iff_not] at *;exact List.le_antisymm (List.not_lt.mp h2) (List.not_lt.mp h1)
section
variable {prog:Program}{w:World}{A:Around}{E:Value→Shared→Prop}{s:Shared}
theorem jjy {b:Bool}{x y:Str}{t u:Tok}{Q:Bool→Shared→Prop} (h:Q (decide (x.cps.toList < y.cps.toList)) s):wpAny (model prog w) A (oneLt' b (.str x t) (.str y u)) Q E s:=by
 cases b with
 | true=>exact oneLt_str h
 | false=>exact kat_one _ _ (lt_str h)
theorem jb3 {b fin:Bool}{Q:Bool→Shared→Prop}:∀ {xs ys:List Value}{L M:List Str}{i:Nat},StrsV xs L→StrsV ys M→Q (lexT L M fin) s→KatLex prog w A b fin Q (xs.zip ys) i s
 | [],_,_,_,i,.nil,_,h=>kat_nil h
 | _,_,_,_,i,.cons n t r,.nil,h=>kat_nil h
 | _,_,_,_,i,.cons n t r,.cons m u q,h=>by
  refine kat_cons (wpAny_eqBool_str ?_)
  unfold lexT at h
  by_cases c:n=m
  ·rw[if_pos c] at h
   subst c
   rw[decide_eq_true rfl]
   exact kat_yes (jb3 r q h)
  ·rw[if_neg c] at h
   rw[decide_eq_false c]
   exact kat_no (jjy h)
def RowsAtT (h:Heap):List Value→List (List Str)→Prop
 | [],[]=>True
 | v :: vs,L :: Ls=>(∃ a its,v=.ref a∧IsTup h a its∧StrsV its.toList L∧L≠[])∧RowsAtT h vs Ls
 | _,_=>False
theorem RowsAtT.kept {h h':Heap}{x:Addr}{zs:Array Value}{n:Nat} (hx:h.get? x=some (seqObj "list" zs n)) (e:∀ b o,b≠x→h.get? b=some o→h'.get? b=some o):∀ {vs:List Value}{Ls:List (List Str)},RowsAtT h vs Ls→RowsAtT h' vs Ls
 | [],[],_=>trivial
 | [],_ :: _,r=>r.elim
 | _ :: _,[],r=>r.elim
 | v :: vs,L :: Ls,⟨⟨a,its,e1,e2,e3,e4⟩,r⟩=>by
  refine⟨⟨a,its,e1,jj5 e2 fun o q=>e a o (fun z=>?_) q,e3,e4⟩,RowsAtT.kept hx e r⟩
  subst z
  obtain⟨o,ho,hc,_⟩:=e2
  rw[hx] at ho
  cases ho
  exact absurd (show Value.type "list"=Value.type "tuple" from hc) (by decide)
theorem RowsAtT.get {h:Heap}:∀ {vs:List Value}{Ls:List (List Str)}{i:Nat},RowsAtT h vs Ls→i < vs.length→∃ a its,vs.getD i .none=.ref a∧IsTup h a its∧StrsV its.toList (Ls.getD i [])
 | [],[],i,_,hi=>by simp at hi
 | [],_ :: _,_,r,_=>r.elim
 | _ :: _,[],_,r,_=>r.elim
 | v :: vs,L :: Ls,0,⟨⟨a,its,e1,e2,e3,e4⟩,r⟩,_=>⟨a,its,e1,e2,e3⟩
 | v :: vs,L :: Ls,i+1,⟨_,r⟩,hi=>by
  obtain⟨a,its,e1,e2,e3⟩:=RowsAtT.get (i:=i) r (by simpa using hi)
  exact⟨a,its,by simpa using e1,e2,by simpa using e3⟩
theorem RowsAtT.firsts {h:Heap}:∀ {vs:List Value}{Ls:List (List Str)},RowsAtT h vs Ls→∃ fs,KatTups h vs fs∧fs.length=vs.length∧∀ v∈fs,∃ n t,v=.str n t
 | [],[],_=>⟨[],KatTups.nil,rfl,by simp⟩
 | [],_ :: _,r=>r.elim
 | _ :: _,[],r=>r.elim
 | v :: vs,L :: Ls,⟨⟨a,its,e1,e2,e3,e4⟩,r⟩=>by
  obtain⟨fs,k1,k2,k3⟩:=RowsAtT.firsts r
  obtain⟨o,ho,hc,n,hd⟩:=e2
  cases e3':its.toList with
  | nil =>
   rw[e3'] at e3
   cases e3
   exact absurd rfl e4
  | cons x xs =>
   rw[e3'] at e3
   cases e3 with
   | cons m t q =>
    subst e1
    refine⟨.str m t :: fs,KatTups.cons ho hc hd (by rw[← Array.getElem?_toList,e3'];rfl) k1,by rw[List.length_cons,List.length_cons,k2],fun v hv=>?_⟩
    skip;rcases List.mem_cons.mp hv with rfl | hv
    ·exact⟨m,t,rfl⟩
    ·exact k3 v hv
theorem jb4 {vs:List Value}{Ls:List (List Str)}{b:Bool} (h:RowsAtT s.heap vs Ls):Tells (O:=rowOrdT) (fun i=>cpm (Ls.getD i [])) vs.length (kas_ask prog w A (tuples' b) vs) s:=by
 intro i j hi hj C c
 obtain⟨x,xs,ex,tx,ix⟩:=h.get hi
 obtain⟨y,ys,ey,ty,iy⟩:=h.get hj
 obtain⟨ox,gx,_,nx,dx⟩:=tx
 obtain⟨oy,gy,_,ny,dy⟩:=ty
 unfold kas_ask
 rw[ex,ey]
 refine kat_lt gx dx gy dy (jb3 ix iy ?_)
 have lx:=ix.length
 have ly:=iy.length
 rw[Array.length_toList] at lx ly
 rw[lx,ly,jem]
 exact c
theorem j5w {a:Addr}{vs:List Value}{n:Nat}{Ls:List (List Str)}{P:PySem.Fin→Shared→Prop} (ho:s.heap.get? a=some (seqObj "list" vs.toArray n)) (h64:vs.length < 64) (hR:RowsAtT s.heap vs Ls)
  (h:∀ p:Array Nat,OkP vs.length p→Asc (O:=rowOrdT) (fun i=>cpm (Ls.getD i [])) p vs.length→P (.done (.ret .none)) { s with heap:=sortedHeap s.heap a vs (p.toList.map fun i=>vs.getD i .none).toArray }) :
  wpAny (model prog w) A (Builtin.«list.sort» ⟨[Value.ref a],[]⟩) P E s:=by
 refine jga (κ:=tuples' true) (O:=rowOrdT) (k:=fun i=>cpm (Ls.getD i [])) ho h64 (fun h2 h' e Q q=>?_) (fun h' e=>jb4 (s:={ s with heap:=h' }) (hR.kept ho e)) h
 obtain⟨fs,k1,k2,k3⟩:=RowsAtT.firsts (hR.kept ho e)
 exact kat_kind (s:={ s with heap:=h' }) (T:=.type "str") k1 (by omega) (fun v hv=>by obtain⟨m,t,rfl⟩:=k3 v hv;exact .now) rfl q
end
inductive RowsVT (prog:Program) (w:World) (Z:Addr→List Str→Prop) (h:Heap):List Value→List (List Str)→Prop
 | nil:RowsVT prog w Z h [] []
 | cons {a:Addr}{L:List Str}{vs:List Value}{Ls:List (List Str)}:IsTupleKey (PySem.strKind prog w) h L a→Z a L→RowsVT prog w Z h vs Ls→RowsVT prog w Z h (.ref a :: vs) (L :: Ls)
section
variable {prog:Program}{w:World}{A:Around}{E:Value→Shared→Prop}{s:Shared}{Z:Addr→List Str→Prop}{h:Heap}
theorem jdj {es:List (Int × Value)}{Ls:List (List Str)} (r:RowsET prog w Z h es Ls):RowsVT prog w Z h (es.map (·.2)) Ls:=by
 induction r with
 | nil=>exact .nil
 | @cons e L es Ls x _ ih =>
  obtain⟨a,x1,x2,_,x4⟩:=x
  rw[List.map_cons,x1]
  exact .cons x2 x4 ih
theorem RowsVT.length {vs:List Value}{Ls:List (List Str)} (r:RowsVT prog w Z h vs Ls):vs.length=Ls.length:=by
 induction r with
 | nil=>rfl
 | cons _ _ _ ih=>simp[ih]
theorem RowsVT.kept {h':Heap}{vs:List Value}{Ls:List (List Str)} (r:RowsVT prog w Z h vs Ls) (e:∀ b o,o.cls=.type "tuple"→h.get? b=some o→h'.get? b=some o):RowsVT prog w Z h' vs Ls:=by
 induction r with
 | nil=>exact .nil
 | cons x y _ ih=>exact .cons (j2v x (e _)) y ih
theorem RowsVT.at {vs:List Value}{Ls:List (List Str)} (r:RowsVT prog w Z h vs Ls) (hne:∀ L∈Ls,L≠[]):RowsAtT h vs Ls:=by
 induction r with
 | nil=>trivial
 | @cons a L vs Ls x y _ ih =>
  obtain⟨o,items,n,ho,hc,hd,hi⟩:=x
  exact⟨⟨a,items,rfl,⟨o,ho,hc,n,hd⟩,jb2 hi,hne L List.mem_cons_self⟩,ih fun M hM=>hne M (List.mem_cons_of_mem _ hM)⟩
theorem RowsVT.pick {vs:List Value}{Ls:List (List Str)} (r:RowsVT prog w Z h vs Ls):∀ (l:List Nat),(∀ i∈l,i < vs.length)→RowsVT prog w Z h (l.map fun i=>vs.getD i .none) (l.map fun i=>Ls.getD i [])
 | [],_=>.nil
 | i :: l,hl=>by
  have one:∀ {vs:List Value}{Ls:List (List Str)} (i:Nat),RowsVT prog w Z h vs Ls→i < vs.length→∃ a,vs.getD i .none=.ref a∧IsTupleKey (PySem.strKind prog w) h (Ls.getD i []) a∧Z a (Ls.getD i []):=by
   intro vs Ls i r
   induction r generalizing i with
   | nil=>intro hi;simp at hi
   | cons x y _ ih =>
    intro hi
    cases i with
    | zero=>exact⟨_,rfl,by simpa using x,by simpa using y⟩
    | succ i=>simpa using ih i (by simpa using hi)
  obtain⟨a,e1,e2,e3⟩:=one i r (hl i List.mem_cons_self)
  rw[List.map_cons,List.map_cons,e1]
  exact .cons e2 e3 (RowsVT.pick r l fun j hj=>hl j (List.mem_cons_of_mem _ hj))
theorem RowsVT.perm {us vs:List Value} (p:us.Perm vs):∀ {Ls:List (List Str)},RowsVT prog w Z h vs Ls→∃ Ms,RowsVT prog w Z h us Ms∧Ms.Perm Ls:=by
 induction p with
 | nil=>intro Ls r;exact⟨Ls,r,List.Perm.refl _⟩
 | cons x _ ih =>
  intro Ls r
  cases r with
  | cons e f r =>
   obtain⟨m,a,b⟩:=ih r
   exact⟨_,.cons e f a,b.cons _⟩
 | swap x y l =>
  intro Ls r
  cases r with
  | cons e f r =>
   cases r with
   | cons e2 f2 r2=>exact⟨_,.cons e2 f2 (.cons e f r2),List.Perm.swap _ _ _⟩
 | trans _ _ i1 i2 =>
  intro Ls r
  obtain⟨m,a,b⟩:=i2 r
  obtain⟨m2,a2,b2⟩:=i1 a
  exact⟨m2,a2,b2.trans b⟩
theorem j86 {Ls:List (List Str)}{p:Array Nat}{n:Nat} (hp:OkP n p) (as:Asc (O:=rowOrdT) (fun i=>cpm (Ls.getD i [])) p n):(p.toList.map fun i=>Ls.getD i []).Pairwise fun a b=>¬ cpm b < cpm a:=by
 rw[List.pairwise_map,List.pairwise_iff_getElem]
 intro i j hi hj hij
 rw[Array.length_toList] at hi hj
 have hs:=hp.size
 have:=as i j (by omega) (by omega)
 unfold kAt at this
 rw[Array.getElem?_eq_getElem hi,Array.getElem?_eq_getElem hj] at this
 have q:decide (cpm (Ls.getD p[j] []) < cpm (Ls.getD p[i] []))=false:=this
 simpa using q
theorem j94 {S:Addr}{h0:Heap}{Ms:List (List Str)}{Q:Value→Shared→Prop} (hh:A.handled=none) (hS:j3d prog w Z h0 s.heap S Ms) (h64:Ms.length≤18) (hne:∀ L∈Ms,L≠[]) (hk:∀ b o,o.cls=.type "tuple"→h0.get? b=some o→s.heap.get? b=some o)
  (h:∀ (s':Shared) (h':Heap) (a:Addr) (out:List Value) (e:Nat) (Ls:List (List Str)),(∀ b o,s.heap.get? b=some o→h'.get? b=some o)→S < a→h'.get? a=some (seqObj "list" out.toArray e)→RowsVT prog w Z h0 out Ls→Ls.Perm Ms→Ls.Pairwise (fun a b=>¬ cpm b < cpm a)→Q (.ref a) { s with heap:=h',toks:=s'.toks,drawn:=s'.drawn }):wpAny (model prog w) A (call (.builtin "sorted") [.ref S]) Q E s:=by
 obtain⟨es,ep,t,g,T,hled,hr,nd⟩:=hS
 have rl:=hr.length
 rw[Array.length_toList] at rl
 have hz:es.size≤sizeLine:=by rw[sizeLine_eq];omega
 refine Calls.call_function_entry kind_sorted plain_sorted entry_sorted (args_sorted1 _) ?_;unfold Builtin.«sorted»
 refine wpAny_bind (m:=checkCount "sorted" 1 1 _) (wpAny_pure (wpAny_bind (j93 hh g T hled hz fun s' d acc hm ha=>?_)))
 obtain⟨M1,rv,p1⟩:=RowsVT.perm ha (jdj hr)
 have l1:=rv.length
 have l2:=p1.length_eq
 skip;refine wpAny_bind (wpAny_newList ?_ (by rw[sizeLine_eq];omega))
 have o1:(s'.heap.push (seqObj "list" acc.toArray 0)).get? s'.heap.objs.size=some (seqObj "list" acc.toArray 0):=Heap.get?_push_size _ rfl
 have le:S < s'.heap.objs.size:=Heap.lt_size (hm.heap S _ (by simp) g)
 have kt:∀ b o,o.cls=.type "tuple"→h0.get? b=some o→(s'.heap.push (seqObj "list" acc.toArray 0)).get? b=some o:=fun b o c e=>Heap.get?_push_of_some _ (hm.heap b o (by simp) (hk b o c e))
 refine wpAny_bind (wpAny_holding (wpAny_call_entry slot_list_sort ⟨_,o1,rfl⟩ entry_list_sort (j5w (s:={ s' with heap:=s'.heap.push (seqObj "list" acc.toArray 0) }) o1 (by omega) ((rv.kept kt).at fun L hL=>hne L (p1.mem_iff.mp hL)) fun p ok as=>⟨_,rfl,wpAny_pure ⟨_,rfl,?_⟩⟩) (args_list_sort _)))
 obtain⟨h',g',d',t',q'⟩:=s'
 skip;have eg:g'=s.gens:=hm.gens
 skip;have ed:d'=d:=hm.drawn
 have eo:q'=s.os:=hm.os
 subst eg eo
 obtain⟨e,he⟩:=sortedHeap_at (out:=(p.toList.map fun i=>acc.getD i .none).toArray) o1
 have all:∀ i∈p.toList,i < acc.length:=fun i hi=>List.mem_range.mp (ok.mem_iff.mp hi)
 have pk:(p.toList.map fun i=>M1.getD i []).Perm M1:=by
  refine (ok.map _).trans ?_
  have:(List.range acc.length).map (fun i=>M1.getD i [])=M1:=by
   rw[l1]
   refine List.ext_getElem? fun i=>?_
   by_cases hi:i < M1.length
   ·simp[hi]
   ·simp[hi]
  rw[this]
 refine h ⟨h',s.gens,d',t',s.os⟩ _ _ _ e _ (fun b o eb=>?_) le he (rv.pick p.toList all) (pk.trans p1) (j86 ok as)
 have hb:=hm.heap b o (by simp) eb
 have lb:=Heap.lt_size hb
 refine (sortedHeap_old (Nat.ne_of_lt lb) ?_).trans (Heap.get?_push_of_some _ hb)
 rw[Heap.size_push]
 exact Nat.lt_succ_of_lt lb
end
inductive RefsHT (H:Hp):List V→List (List Str)→Prop
 | nil:RefsHT H [] []
 | cons {a:Addr}{L:List Str}{vs:List V}{Ls:List (List Str)}:H a=some (.tup (L.map V.str))→RefsHT H vs Ls→RefsHT H (.ref a :: vs) (L :: Ls)
theorem RefsHT.length {H:Hp}{vs:List V}{Ls:List (List Str)} (r:RefsHT H vs Ls):vs.length=Ls.length:=by
 induction r with
 | nil=>rfl
 | cons _ _ ih=>simp[ih]
theorem RefsHT.mono {H H':Hp} (e:Ext H H') {vs:List V}{Ls:List (List Str)} (r:RefsHT H vs Ls):RefsHT H' vs Ls:=by
 induction r with
 | nil=>exact .nil
 | cons x _ ih=>exact .cons (e _ _ x) ih
theorem RefsHT.get {H:Hp}{vs:List V}{Ls:List (List Str)} (r:RefsHT H vs Ls):∀ (i:Nat) (v:V),vs[i]?=some v→∃ a,v=.ref a∧H a=some (.tup ((Ls.getD i []).map V.str)):=by
 induction r with
 | nil=>intro i v h;simp at h
 | cons x _ ih =>
  intro i v h
  cases i with
  | zero=>simp at h;subst h;exact⟨_,rfl,by simpa using x⟩
  | succ i=>simpa using ih i v (by simpa using h)
theorem j87 {prog:Program}{w:World}{H:Hp}{h:Heap}{out:List Value}{Ls:List (List Str)} (r:RowsVT prog w (fun a L=>H a=some (.tup (L.map V.str))) h out Ls):∃ vs,Vals vs out∧RefsHT H vs Ls:=by
 induction r with
 | nil=>exact⟨_,.nil,.nil⟩
 | @cons a L vs Ls x y _ ih =>
  obtain⟨us,e1,e2⟩:=ih
  exact⟨.ref a :: us,.cons rfl e1,.cons y e2⟩
theorem j3f:∀ {Ls:List (List Str)},Ls.Nodup→Ls.Pairwise (fun a b=>¬ cpm b < cpm a)→Ls.Pairwise (fun a b=>cpm a < cpm b)
 | [],_,_=>.nil
 | L :: Ls,n,p=>by
  obtain⟨n1,n2⟩:=List.nodup_cons.mp n
  obtain⟨p1,p2⟩:=List.pairwise_cons.mp p
  refine List.pairwise_cons.mpr ⟨fun M hM=>?_,j3f n2 p2⟩
  refine Classical.byContradiction fun q=>n1 ?_
  rw[jb1 (List.le_antisymm (List.not_lt.mp (p1 M hM)) (List.not_lt.mp q))]
  exact hM
theorem jb5 {ns:List Str}:∀ {us:List Value},Vals (ns.map V.str) us→StrsV us ns:=by
 induction ns with
 | nil=>intro us r;rw[List.map_nil] at r;cases r;exact .nil
 | cons n ns ih =>
  intro us r
  rw[List.map_cons] at r
  cases r with
  | cons r1 r2 =>
   obtain⟨t,rfl⟩:=r1
   exact .cons n t (ih r2)
theorem Inv.drew {X:Cx}{pins:List (Addr × Obj)}{σ:List (Option V)}{H:Hp}{s:Shared} (I:Inv X pins σ H s) (d:Drawn):Inv X pins σ H { s with drawn:=d }:=⟨I.ok,I.os,I.bare,I.base,I.loc,I.cell,I.free,I.freeC,I.pin,I.hok,I.len⟩
section
variable {X:Cx}
def j5x (K:PySem.W.Frag):List V→Hp→VK→Prop:=fun xs H Q=>∃ (p:Addr) (vs:List V) (Ls:List (List Str)),xs=[.ref p]∧SqL K H p vs∧RefsHT H vs Ls∧vs.length≤18∧(∀ L∈Ls,L≠[])∧∀ l vs' Ls',H l=none→RefsHT H vs' Ls'→Ls'.Pairwise (fun a b=>cpm a < cpm b)→(∀ L,L∈Ls'↔L∈Ls)→Ls'.length≤18→Q (.ref l) (upd H l (.lst vs'))
theorem j71 {k:Nat} (hr:Room k X.A) {a:Expr}{ta:TA}{p p' pos pos':Pos} (hc:X.calm=true) (hg:Gl X "sorted") (hm:X.mg "sorted"=none) (hg2:Gl X "set") (hm2:X.mg "set"=none) (ha:PA X [a] ta) (hs:starEach [a] X.env=[(false,eval a X.env)]:=by rfl)
  (ht:starEach [.Call (.Name "set" p') [a] [] pos'] X.env=[(false,eval (.Call (.Name "set" p') [a] [] pos') X.env)]:=by rfl) :
  PE X (.Call (.Name "sorted" p) [.Call (.Name "set" p') [a] [] pos'] [] pos) (tCB (j5x X.K) ta):=by
 intro pins s σ H Q I h
 refine wpAny_Call_Name_kw (j1y I hg hm PyProof.Rows.boot_sorted (PyProof.Rows.callWith_builtin1 ?_ ht rfl) (by decide) (by decide))
 rw[ht]
 show wpAny _ _ (spliced ((false,eval (.Call (.Name "set" p') [a] [] pos') X.env) :: backTo pos [])) _ _ s
 refine Calls.spliced_cons (wpAny_Call_Name_kw (j1y I hg2 hm2 boot_set (PyProof.Rows.callWith_type1 (thn (ha pos' pins s σ H _ I h) fun us s1 ⟨vs,H1,I1,r1,q1⟩=>?_) hs rfl) (by decide) (by decide)))
 obtain⟨p1,ws,Ls,e,hx,hrf,hz,hne,q⟩:=q1
 subst e
 obtain⟨u,rfl,ru⟩:=j5c r1
 cases ru
 obtain⟨its,ri,pl,_⟩:=I1.list hx
 have hl:=ri.length
 have hl2:=hrf.length
 have sz:its.toArray.size=its.length:=List.size_toArray ..
 have un:=hr.un
 refine jb0 (Z:=fun a L=>H1 a=some (.tup (L.map V.str))) (Ls:=Ls) (I1.ok.hd hc) (by show X.A.units+1+1+1 < cLine;omega) pl.isList (by omega) (fun i v hv=>?_) (by omega) fun h' tk Ms hS hlen hmem hk=>Calls.spliced_nil ?_
 ·have hv':its[i]?=some v:=by simpa using hv
  obtain⟨x,ex,rx⟩:=jej ri i v hv'
  obtain⟨b,rfl,hb⟩:=hrf.get i x ex
  cases rx with
  | cons r0 _ =>
   cases r0
   obtain⟨it2,r2,t2,_⟩:=I1.tuple (SqT.of (K:=X.K) hb)
   obtain⟨o,ho,hcl,n,hd⟩:=t2
   exact⟨b,rfl,⟨o,_,n,ho,hcl,hd,by simpa using j3e (jb5 r2)⟩,hb⟩
 ·refine j94 (s:={ s1 with heap:=h',toks:=tk }) (I1.ok.hd hc) hS (by omega) (fun L hL=>hne L ((hmem L).mp hL)) (fun b o _ e=>hk b o (Heap.lt_size e) e) fun s' g' l out ex Ks hk2 hlt ho hrv hpm hpw=>?_
  obtain⟨vs',v1,v2⟩:=j87 hrv
  obtain⟨_,_,_,_,_,_,_,nd⟩:=hS
  have kk:∀ b u,s1.heap.get? b=some u→g'.get? b=some u:=fun b u e=>hk2 b u (hk b u (Heap.lt_size e) e)
  have lv:=v2.length
  have lk:=hpm.length_eq
  refine⟨.ref l,upd H1 l (.lst vs'),(I1.drew s'.drawn).laid (t':=s'.toks) kk (Nat.le_of_lt hlt) (show ObjOk X.prog X.w _ _ _ (.lst vs') from⟨by rw[sizeLine_eq];omega,out,ex,v1,ho⟩),rfl,q l vs' Ks (I1.hok.fresh (Nat.le_of_lt hlt)) v2 (j3f (hpm.nodup_iff.mpr nd) hpw) (fun L=>by rw[hpm.mem_iff,hmem]) (by omega)⟩
theorem j95 {K:PySem.W.Frag}{H:Hp}{Q:VK}{p:Addr}{vs:List V}{Ls:List (List Str)} (h:H p=some (.lst vs)) (hr:RefsHT H vs Ls) (hn:vs.length≤18) (hne:∀ L∈Ls,L≠[]) (q:∀ l H' vs' Ls',H l=none→H' l=some (.lst vs')→Ext H H'→RefsHT H' vs' Ls'→Ls'.Pairwise (fun a b=>cpm a < cpm b)→(∀ L,L∈Ls'↔L∈Ls)→Ls'.length≤18→Q (.ref l) H'):j5x K [.ref p] H Q :=
 ⟨p,vs,Ls,rfl,SqL.of h,hr,hn,hne,fun l vs' Ls' nl r' pw mm ll=>q l _ vs' Ls' nl j07 (j0j nl) (r'.mono (j0j nl)) pw mm ll⟩
end
section
open PySem.SeqAt
open PySem.AutoSeq1 (wpAny_loadPart')
open PySem.MeetsSeq PySem.MeetsSeq2 PySem.MeetsSeq3
end
end L2
set_option Elab.async false
set_option linter.all false
set_option maxRecDepth 100000
set_option maxHeartbeats 4000000
namespace L2
open PySem PySem.Spec PyProof.Rows PySem.W
def jen (p q:List Str × Int):Prop:=cpm p.1 < cpm q.1∨(p.1=q.1∧p.2 < q.2)
instance (p q:List Str × Int):Decidable (jen p q):=by unfold jen;infer_instance
inductive PairsAtT (prog:Program) (w:World) (h:Heap):List Value→List (List Str × Int)→Prop
 | nil:PairsAtT prog w h [] []
 | cons {c a:Addr}{L:List Str}{x:Int}{t:Tok}{vs:List Value}{Ks:List (List Str × Int)}:IsTup h c #[.ref a,.int x t]→IsTupleKey (PySem.strKind prog w) h L a→PairsAtT prog w h vs Ks→PairsAtT prog w h (.ref c :: vs) ((L,x) :: Ks)
section
variable {prog:Program}{w:World}{A:Around}{E:Value→Shared→Prop}{s:Shared}
theorem PairsAtT.length {h:Heap}{vs:List Value}{Ks:List (List Str × Int)} (r:PairsAtT prog w h vs Ks):vs.length=Ks.length:=by
 induction r with
 | nil=>rfl
 | cons _ _ _ ih=>simp[ih]
theorem PairsAtT.kept {h h':Heap} (e:∀ b o,o.cls=.type "tuple"→h.get? b=some o→h'.get? b=some o) {vs:List Value}{Ks:List (List Str × Int)} (r:PairsAtT prog w h vs Ks):PairsAtT prog w h' vs Ks:=by
 induction r with
 | nil=>exact .nil
 | cons x y _ ih =>
  obtain⟨o,ho,hc,hr⟩:=x
  exact .cons ⟨o,e _ _ hc ho,hc,hr⟩ (j2v y (e _)) ih
theorem PairsAtT.get {h:Heap}{vs:List Value}{Ks:List (List Str × Int)} (r:PairsAtT prog w h vs Ks):∀ i,i < vs.length→∃ c a t,vs.getD i .none=.ref c∧IsTup h c #[.ref a,.int (Ks.getD i ([],0)).2 t]∧IsTupleKey (PySem.strKind prog w) h (Ks.getD i ([],0)).1 a:=by
 induction r with
 | nil=>exact fun i hi=>by simp at hi
 | @cons c a L x t vs Ks x y _ ih =>
  intro i hi
  cases i with
  | zero=>exact⟨c,a,t,rfl,by simpa using x,by simpa using y⟩
  | succ i=>simpa using ih i (by simpa using hi)
end
inductive PairsHT (H:Hp):List V→List (List Str × Int)→Prop
 | nil:PairsHT H [] []
 | cons {c a:Addr}{L:List Str}{x:Int}{vs:List V}{Ks:List (List Str × Int)}:H c=some (.tup [.ref a,.int x])→H a=some (.tup (L.map V.str))→PairsHT H vs Ks→PairsHT H (.ref c :: vs) ((L,x) :: Ks)
theorem PairsHT.length {H:Hp}{vs:List V}{Ks:List (List Str × Int)} (r:PairsHT H vs Ks):vs.length=Ks.length:=by
 induction r with
 | nil=>rfl
 | cons _ _ _ ih=>simp[ih]
theorem PairsHT.mono {H H':Hp} (e:Ext H H') {vs:List V}{Ks:List (List Str × Int)} (r:PairsHT H vs Ks):PairsHT H' vs Ks:=by
 induction r with
 | nil=>exact .nil
 | cons x y _ ih=>exact .cons (e _ _ x) (e _ _ y) ih
section
open PySem.SeqAt
open PySem.AutoSeq1 (wpAny_loadPart')
open PySem.MeetsSeq PySem.MeetsSeq2 PySem.MeetsSeq3
end
section
variable {prog:Program}{w:World}{A:Around}{E:Value→Shared→Prop}{s:Shared}{d it:Addr}{o:Obj}{es:Array DictEntry}{i ep:Nat}
theorem jb6 (ho:s.heap.get? d=some o) (hc:o.ExactDict):s.TypeIs (.ref d) "dict":=⟨o,ho,hc.1⟩
theorem jeo {Q:Value→Shared→Prop} (hd:(d == sysModules)=false) (ho:s.heap.get? d=some o) (hc:o.ExactDict) (hdat:o.data=.dict es ep)
  (hQ:∀ h',h'.IsKeyIter s.heap.objs.size d 0 es.size ep→(∀ b u,s.heap.get? b=some u→h'.get? b=some u)→Q (.ref s.heap.objs.size) { s with heap:=h' }):wpAny (model prog w) A (pyIter (.ref d)) Q E s:=by
 have hT:=jb6 ho hc
 refine wpAny_pyIter_slot hT PySem.F.slot_dict_iter (wpAny_call_entry PySem.F.slot_dict_iter hT PySem.F.entry_dict_iter ?_ (PySem.F.args_dict_iter_1 _))
 skip;unfold Builtin.«dict.__iter__»
 refine wpAny_bind ?_
 skip;unfold Builtin.Dict.dictSlotNone
 refine wpAny_bind (wpAny_notOrdered_dict hT ?_);show wpAny _ _ (pure (Value.ref d)) _ _ s
 refine wpAny_pure ?_;show wpAny _ _ (Builtin.Dict.showsAll d >>= _) _ _ s
 unfold Builtin.Dict.showsAll;rw[if_neg (by rw[hd];decide)]
 refine wpAny_bind (wpAny_pure (wpAny_bind (wpAny_dictEntries ho hdat (wpAny_bind (wpAny_dictEpoch ho hdat ?_)))))
 refine wpAny_bind (wpAny_newObj_type (wpAny_pure ⟨_,rfl,"dict_keyiterator",_,⟨_,Heap.get?_push_size _ rfl,rfl⟩,PySem.F.slot_dict_keyiterator_next.lookup,?_⟩))
 exact hQ _ ⟨_,Heap.get?_push_size _ rfl,rfl,rfl⟩ fun b u e=>Heap.get?_push_of_some _ e
theorem jep {Q:Option Value→Shared→Prop} (hit:s.heap.IsKeyIter it d i es.size ep) (ho:s.heap.get? d=some o) (hc:o.ExactDict) (hdat:o.data=.dict es ep) (hlt:i < es.size)
  (hQ:∀ h',h'.IsKeyIter it d (i+1) es.size ep→Heap.SameBut it s.heap h'→Q (some es[i].key) { s with heap:=h' }):wpAny (model prog w) A (pyNext (.ref it)) Q E s:=by
 obtain⟨oi,hoi,hci,hdi⟩:=id hit
 unfold pyNext
 refine wpAny_bind (wpAny_attempt (wpAny_callSpecial?_slot (name:=Str.ofString "__next__") hit.typeIs PySem.F.slot_dict_keyiterator_next (wpAny_call_entry PySem.F.slot_dict_keyiterator_next hit.typeIs PySem.F.entry_dict_keyiterator_next ?_ (PySem.F.args_dict_keyiterator_next_1 _))))
 refine wpAny_bind (wpAny_pure (wpAny_bind (wpAny_bind ?_)))
 first | refine wpAny_bind (wpAny_typeNameOfWhole_keyiter hit.typeIs (wpAny_pure (wpAny_bind (wpAny_fieldsOf hoi hdi ?_)))) | refine wpAny_bind (wpAny_typeNameOf_keyiter hit.typeIs (wpAny_pure (wpAny_bind (wpAny_fieldsOf hoi hdi ?_))))
 simp only[show Builtin.Dict_items.ownsTuple "dict_keyiterator"=false by decide,Bool.false_eq_true,if_false]
 show wpAny _ _ (if (Value.ref d == Value.none)=true then _ else _) _ _ s;rw[if_neg (show ¬ ((Value.ref d == Value.none)=true) by exact Bool.false_ne_true)]
 refine wpAny_bind (wpAny_pure (wpAny_bind (wpAny_dictEntries ho hdat ?_)));rw[if_neg (by simp)]
 refine wpAny_bind (wpAny_pure (wpAny_bind (wpAny_dictEpoch ho hdat ?_)));rw[if_neg (by simp)]
 refine wpAny_pure ?_
 simp only[show ¬ ((i:Int) < 0) by omega,if_false,Int.toNat_natCast,Array.getElem?_eq_getElem hlt]
 refine wpAny_bind ?_
 first | refine wpAny_bind (wpAny_typeNameOfWhole_keyiter hit.typeIs (wpAny_pure (wpAny_bind (wpAny_isOneOf_keyiter hit.typeIs ?_)))) | refine wpAny_bind (wpAny_typeNameOf_keyiter hit.typeIs (wpAny_pure (wpAny_bind (wpAny_isOneOf_keyiter hit.typeIs ?_))))
 show wpAny _ _ (setField (.ref it) 1 (rawInt ((i:Int)+1)) >>= _) _ _ s;refine wpAny_bind (wpAny_setField hoi hdi (by simp) ?_)
 have hit':(s.heap.update it (Obj.mapFields (·.setIfInBounds 1 (rawInt ((i:Int)+1))))).IsKeyIter it d (i+1) es.size ep :=
  ⟨_,Heap.get?_update_self _ hoi (Obj.isFreed_of_fields (Obj.data_mapFields hdi _)),(Obj.cls_mapFields ..).trans hci,(Obj.data_mapFields hdi _).trans (by simp[rawInt])⟩
 refine wpAny_bind (wpAny_holding (wpAny_bind (wpAny_isOneOf_keyiter (s:={ s with heap:=s.heap.update it (Obj.mapFields (·.setIfInBounds 1 (rawInt ((i:Int)+1)))) }) hit'.typeIs ?_)))
 skip;show wpAny _ _ (pure es[i].key) _ _ _
 exact wpAny_pure (wpAny_pure ⟨_,rfl,wpAny_pure (hQ _ hit' (Heap.SameBut.update ..))⟩)
theorem jjz {Q:Option Value→Shared→Prop} (hh:A.handled=none) (hit:s.heap.IsKeyIter it d i es.size ep) (ho:s.heap.get? d=some o) (hc:o.ExactDict) (hdat:o.data=.dict es ep) (hge:es.size≤i)
  (hQ:∀ h2,Heap.ExtBut it s.heap h2→Q none { s with heap:=h2 }):wpAny (model prog w) A (pyNext (.ref it)) Q E s:=by
 obtain⟨oi,hoi,hci,hdi⟩:=id hit
 unfold pyNext
 refine wpAny_bind (wpAny_attempt (wpAny_callSpecial?_slot (name:=Str.ofString "__next__") hit.typeIs PySem.F.slot_dict_keyiterator_next (wpAny_call_entry PySem.F.slot_dict_keyiterator_next hit.typeIs PySem.F.entry_dict_keyiterator_next ?_ (PySem.F.args_dict_keyiterator_next_1 _))))
 refine wpAny_bind (wpAny_pure (wpAny_bind (wpAny_bind ?_)))
 first | refine wpAny_bind (wpAny_typeNameOfWhole_keyiter hit.typeIs (wpAny_pure (wpAny_bind (wpAny_fieldsOf hoi hdi ?_)))) | refine wpAny_bind (wpAny_typeNameOf_keyiter hit.typeIs (wpAny_pure (wpAny_bind (wpAny_fieldsOf hoi hdi ?_))))
 simp only[show Builtin.Dict_items.ownsTuple "dict_keyiterator"=false by decide,Bool.false_eq_true,if_false]
 show wpAny _ _ (if (Value.ref d == Value.none)=true then _ else _) _ _ s;rw[if_neg (show ¬ ((Value.ref d == Value.none)=true) by exact Bool.false_ne_true)]
 refine wpAny_bind (wpAny_pure (wpAny_bind (wpAny_dictEntries ho hdat ?_)));rw[if_neg (by simp)]
 refine wpAny_bind (wpAny_pure (wpAny_bind (wpAny_dictEpoch ho hdat ?_)));rw[if_neg (by simp)]
 refine wpAny_pure ?_
 simp only[show ¬ ((i:Int) < 0) by omega,if_false,Int.toNat_natCast,Array.getElem?_eq_none hge]
 refine wpAny_bind ?_
 first | fail | refine wpAny_bind (wpAny_typeNameOfWhole_keyiter hit.typeIs (wpAny_pure ?_)) | refine wpAny_bind (wpAny_typeNameOf_keyiter hit.typeIs (wpAny_pure ?_))
 show wpAny _ _ (setField (.ref it) 0 .none >>= _) _ _ s;refine wpAny_bind (wpAny_setField hoi hdi (by simp) ?_)
 show wpAny _ _ (newExc (.type "StopIteration") [] >>= _) _ _ _;refine wpAny_bind ?_
 simp only[newExc,newTuple]
 refine wpAny_bind (wpAny_newObj_type (wpAny_bind (m:=firstArgMember _ _) (wpAny_of_eq (a:=Value.none) (by first | rfl | (simp only[firstArgMember];rfl)) ?_)) (by size_fits))
 skip;refine wpAny_newObj_type ?_ (by size_fits)
 simp only[raiseNew];refine wpAny_bind (wpAny_handled ?_)
 rw[show A.in1.handled=none from hh];refine wpAny_bind (wpAny_pure (wpAny_throw ?_))
 refine wpAny_bind (wpAny_isInstance (T:="StopIteration") (b:=true) ⟨_,Heap.get?_push_size _ rfl,rfl⟩ isSubtype_stop (wpAny_pure (hQ _ (((Heap.SameBut.update ..).extBut.push _).push _))))
theorem jeq {Q:Value→Shared→Prop}{n:Nat} (hit:s.heap.IsKeyIter it d i n ep) (h:Q (.ref it) s):wpAny (model prog w) A (pyIter (.ref it)) Q E s:=by
 refine wpAny_pyIter_slot hit.typeIs PySem.F.slot_dict_keyiterator_iter (wpAny_call_entry PySem.F.slot_dict_keyiterator_iter hit.typeIs PySem.F.entry_dict_keyiterator_iter ?_ (PySem.F.args_dict_keyiterator_iter_1 _))
 exact wpAny_pure ⟨_,rfl,"dict_keyiterator",_,hit.typeIs,PySem.F.slot_dict_keyiterator_next.lookup,h⟩
end
def ItdT (a:Addr) (o:Obj):It :=
 ⟨fun i H=>∃ kvs,H a=some (.frz o (.dT kvs))∧i < kvs.length,fun i H x H'=>H'=H∧∀ kvs,H a=some (.frz o (.dT kvs))→∃ kv b,kvs[i]?=some kv∧x=.ref b∧H b=some (.tup (kv.1.map kV)),fun i H=>∃ kvs,H a=some (.frz o (.dT kvs))∧kvs.length≤i⟩
theorem Paired.at {α β:Type}{F:α→β→Prop}{l₁:List α}{l₂:List β} (r:Paired F l₁ l₂):∀ (i:Nat) (a:α) (b:β),l₁[i]?=some a→l₂[i]?=some b→F a b:=by
 induction r with
 | nil=>intro i a b h;simp at h
 | cons x _ ih =>
  intro i a b h1 h2
  cases i with
  | zero=>simp at h1 h2;subst h1 h2;exact x
  | succ i=>exact ih i a b (by simpa using h1) (by simpa using h2)
theorem fz_t {P:Program}{w:World}{H:Hp}{h:Heap}{a:Addr}{o:Obj}{kvs:List (List Key × V)} (ok:HOk P w H h) (e:H a=some (.frz o (.dT kvs))):h.get? a=some o∧o.ExactDict∧(a == sysModules)=false∧∃ es ep,o.data=.dict es ep∧es.size=kvs.length∧∀ (i:Nat) (hi:i < es.size),∃ kv b,kvs[i]?=some kv∧es[i].key=.ref b∧H b=some (.tup (kv.1.map kV)):=by
 obtain⟨h1,z,y,xs,rel,o',es,ep,g,c,dt,en,nd⟩:=(show ObjOk P w H h a (.frz o (.dT kvs)) from ok a _ e)
 rw[h1] at g
 cases g
 have l1:es.size=xs.length:=size_of_entries en
 have l2:kvs.length=xs.length:=Paired.length rel
 refine⟨h1,c,y,es,ep,dt,by omega,fun i hi=>?_⟩
 have hk:i < kvs.length:=by omega
 have hv:i < xs.length:=by omega
 have q:=Paired.at rel i kvs[i] xs[i] (List.getElem?_eq_getElem hk) (List.getElem?_eq_getElem hv)
 have en':=entry_at en i
 rw[Array.getElem?_eq_getElem hi,List.getElem?_eq_getElem hv] at en'
 injection en' with en'
 exact⟨kvs[i],xs[i].2.1,List.getElem?_eq_getElem hk,by rw[en'];rfl,q.2.1⟩
theorem jb7 {P:Program}{w:World}{K:PySem.W.Frag}{tg:Expr} (a it:Addr) (o:Obj) {es:Array DictEntry}{ep:Nat} (hd:o.data=.dict es ep):Turn P w K tg (ItdT a o) [it] it (fun i h=>h.IsKeyIter it a i es.size ep) where
 mem:=List.mem_singleton.mpr rfl
 obj:=fun i h st b hb=>by
  cases List.mem_singleton.mp hb
  obtain⟨u,e,_,d⟩:=st
  exact⟨u,e,fun v z=>by rw[d] at z;cases z⟩
 keep:=fun i h h' st k=>let ⟨u,e,r⟩:=st;⟨u,k it (List.mem_singleton.mpr rfl) u e,r⟩
 item:=by
  intro X hP hw hK hc i pins s σ H E I hf st hg
  subst hP hw hK
  obtain⟨kvs,hq,hx⟩:=hg
  obtain⟨g1,g2,g3,es',ep',g4,g5,g6⟩:=fz_t I.hok hq
  rw[hd] at g4
  cases g4
  obtain⟨f0,f1,f2,f3,f4,f5⟩:=hf it (List.mem_singleton.mpr rfl)
  obtain⟨kv,b0,k1,k2,k3⟩:=g6 i (by omega)
  refine jep st g1 g2 hd (by omega) fun h' st' sb=>?_
  have I1:Inv X pins σ H { s with heap:=h' }:=I.turned (t':=s.toks) (fun b u hb e=>(sb.2 b hb).trans e) f0 f1 f3 f4 f5
  obtain⟨u,e,c,d⟩:=id st'
  refine⟨_,rfl,jf6 (s:={ s with heap:=h' }) e c d (by decide) ⟨.ref b0,H,I1,k2,⟨rfl,fun kvs' hk'=>⟨kv,b0,by rw[hq] at hk';cases hk';exact k1,rfl,k3⟩⟩,st',fun b hb=>(hf b hb).1⟩⟩
 done:=by
  intro X hP hw hK hc i pins s σ H E I hf st hg
  subst hP hw hK
  obtain⟨kvs,hq,hx⟩:=hg
  obtain⟨g1,g2,g3,es',ep',g4,g5,g6⟩:=fz_t I.hok hq
  rw[hd] at g4
  cases g4
  obtain⟨f0,f1,f2,f3,f4,f5⟩:=hf it (List.mem_singleton.mpr rfl)
  exact jjz (I.ok.hd hc) st g1 g2 hd (by omega) fun h' eb=>⟨rfl,I.turned (t':=s.toks) (fun b u hb e=>eb b u hb e) f0 f1 f3 f4 f5⟩
 self:=fun _ _ _ _ _ st h=>jeq st h
section
variable {X:Cx}{tg:Expr}
def iDT (tl:TE):TI:=fun σ H R=>tl σ H fun x H1=>∃ a o kvs,x=.ref a∧H1 a=some (.frz o (.dT kvs))∧R (ItdT a o) H1
theorem pi_dT {l:Expr}{tl:TE} (hl:PE X l tl):PI X tg l (iDT tl):=by
 intro pins s σ H R I h
 refine thn (hl pins s σ H _ I h) fun v s1 ⟨x,H1,I1,r1,q1⟩=>?_
 obtain⟨a,o,kvs,e,hq,q⟩:=q1
 subst e
 cases r1
 obtain⟨g1,g2,g3,es,ep,g4,g5,g6⟩:=fz_t I1.hok hq
 refine jeo g3 g1 g2 g4 fun h' st k=>?_
 refine⟨s1.heap.objs.size,[s1.heap.objs.size],_,_,H1,rfl,I1.kept (t':=s1.toks) k,jb7 a _ o g4,st,fun b hb=>?_,q⟩
 cases List.mem_singleton.mp hb
 exact I1.fpOk (Nat.le_refl _) (I1.hok.fresh (Nat.le_refl _))
end
section
variable {a:Addr}{o:Obj}{g:TG}{tb:TS}{D:Ends}{σ:St}{H:Hp}
theorem for_dT {kvs:List (List Key × V)} (Pv:Nat→St→Hp→Prop) (h0:Pv 0 σ H) (hl:∀ i σ H,i≤kvs.length→Pv i σ H→H a=some (.frz o (.dT kvs)))
  (hs:∀ i kv b σ H,kvs[i]?=some kv→H b=some (.tup (kv.1.map kV))→Pv i σ H→g (.ref b) σ H fun σ2 H2=>tb { D with nx:=Pv (i+1),ct:=Pv (i+1),bk:=D.nx } σ2 H2) (hd:∀ σ H,Pv kvs.length σ H→D.nx σ H) :
  ∃ W:Nat→Nat→St→Hp→Prop,(∃ m,W 0 m σ H)∧∀ i m σ H,W i m σ H →
   ((ItdT a o).stop i H∧D.nx σ H)∨((ItdT a o).go i H∧∃ N:St→Hp→Prop,(∀ σ' H',N σ' H'→∃ m',m' < m∧W (i+1) m' σ' H')∧∀ x H',(ItdT a o).yld i H x H'→g x σ H' fun σ2 H2=>tb { D with nx:=N,ct:=N,bk:=D.nx } σ2 H2):=by
 refine⟨fun i m σ H=>m=kvs.length-i∧i≤kvs.length∧Pv i σ H,⟨kvs.length,by simp,Nat.zero_le _,h0⟩,?_⟩
 rintro i m σ H ⟨rfl,hi,p⟩
 have q:=hl i σ H hi p
 by_cases hlt:i < kvs.length
 ·refine .inr ⟨⟨kvs,q,hlt⟩,Pv (i+1),fun σ' H' p'=>⟨kvs.length-(i+1),by omega,rfl,hlt,p'⟩,fun x H' y=>?_⟩
  obtain⟨e,y⟩:=y
  subst e
  obtain⟨kv,b,k1,rfl,k2⟩:=y kvs q
  exact hs i kv b σ _ k1 k2 p
 ·have e:i=kvs.length:=by omega
  subst e
  exact .inl ⟨⟨kvs,q,Nat.le_refl _⟩,hd σ H p⟩
theorem r_idT {tl:TE}{R:It→Hp→Prop} (q:tl σ H fun x H1=>∃ a o kvs,x=.ref a∧H1 a=some (.frz o (.dT kvs))∧R (ItdT a o) H1):iDT tl σ H R:=q
end
inductive IsDc:HO→Prop
 | k (kvs:List (Key × V)):IsDc (.dK kvs)
 | t (kvs:List (List Key × V)):IsDc (.dT kvs)
theorem IsDc.obj {P:Program}{w:World}{H:Hp}{h:Heap}{a:Addr}{u:HO} (d:IsDc u) (ok:ObjOk P w H h a u):∃ o,h.get? a=some o:=by
 cases d with
 | k kvs=>obtain⟨_,_,_,_,o,_,_,g,_⟩:=ok;exact⟨o,g⟩
 | t kvs=>obtain⟨_,_,_,_,o,_,_,g,_⟩:=ok;exact⟨o,g⟩
theorem Inv.frz {X:Cx}{pins:List (Addr × Obj)}{σ:St}{H:Hp}{s:Shared}{a:Addr}{u:HO}{o:Obj} (I:Inv X pins σ H s) (e:H a=some u) (d:IsDc u) (ho:s.heap.get? a=some o):Inv X pins σ (upd H a (.frz o u)) s:=by
 have ne:∀ b v,H b=some v→v≠u→b≠a:=fun b v h n z=>by rw[z,e] at h;cases h;exact n rfl
 have keep:∀ b v,H b=some v→v≠u→upd H a (.frz o u) b=some v:=fun b v h n=>by rw[j08 (ne b v h n)];exact h
 refine I.un (h':=s.heap) (t':=s.toks) ⟨fun b o e n _ _=>e,fun b o e n _ _=>⟨o.slots,e⟩,fun b o _ n _=>?_,fun b o e _=>⟨o,e⟩,fun b xs h=>keep b _ h (by intro z;rw[← z] at d;cases d),fun b ob v h=>keep b _ h (by intro z;rw[← z] at d;cases d),fun b qs h=>⟨#[],by rw[keep b _ h (by intro z;rw[← z] at d;cases d)];simp⟩⟩ fun b v h=>?_
 ·rw[j08 (fun z=>by rw[z,e] at n;cases n)]
  exact n
 ·have st:∀ {v:HO},ObjOk X.prog X.w H s.heap b v→ObjOk X.prog X.w (upd H a (.frz o u)) s.heap b v:=fun x=>x.stay (fun _ _ _ q=>q) (fun c q=>keep c _ q (by intro z;rw[← z] at d;cases d)) fun c xs q=>keep c _ q (by intro z;rw[← z] at d;cases d)
  by_cases hb:b=a
  ·subst hb
   rw[j07] at h
   cases h
   exact⟨ho,st (I.hok b _ e)⟩
  ·rw[j08 hb] at h
   exact st (I.hok b _ h)
def rFrz (x:V) (H:Hp) (Q:VK):Prop:=∃ a u,x=.ref a∧H a=some u∧IsDc u∧∀ o,Q x (upd H a (.frz o u))
def tFrz (t:TE):TE:=fun σ H Q=>t σ H fun x H1=>rFrz x H1 Q
section
variable {X:Cx}{e:Expr}{t:TE}
theorem jk0 (he:PE X e t):PE X e (tFrz t):=by
 intro pins s σ H Q I h
 refine thn (he pins s σ H _ I h) fun v s1 ⟨x,H1,I1,r1,a,u,ex,hu,d,q⟩=>?_
 subst ex
 obtain⟨o,ho⟩:=d.obj (I1.hok a _ hu)
 exact⟨.ref a,_,I1.frz hu d ho,r1,q o⟩
end
section
variable {K:PySem.W.Frag}{σ:St}{H:Hp}{Q:VK}{td ty tv t:TE}{p b:Addr}
theorem r_frz (q:t σ H fun x H1=>rFrz x H1 Q):tFrz t σ H Q:=q
theorem jk1 {kvs:List (List Key × V)} (h:H p=some (.dT kvs)) (q:∀ o H',H' p=some (.frz o (.dT kvs))→But p H H'→Q (.ref p) H'):rFrz (.ref p) H Q:=⟨p,_,rfl,h,.t _,fun o=>q o _ j07 j44⟩
theorem j5y {kvs:List (List Key × V)}{k:List Key}{v:V} (h:Rd H p (.dT kvs)) (hb:H b=some (.tup (k.map kV))) (e:valV kvs k=some v) (q:Q v H):rDGet (.ref p) (.ref b) H Q:=⟨p,v,rfl,.inr ⟨kvs,k,b,h,rfl,hb,e.symm⟩,q⟩
theorem jer {kvs:List (List Key × V)}{k:List Key}{v:V}{R:Hp→Prop} (h:H p=some (.dT kvs)) (hb:H b=some (.tup (k.map kV))) (hl:kvs.length < 1000000) (q:∀ H',H' p=some (.dT (putK kvs k v))→But p H H'→R H'):rDPut (.ref p) (.ref b) v H R :=
 ⟨p,_,rfl,DPut.t h hb (by rw[sizeLine_eq];omega),q _ j07 j44⟩
def rNinK:R2:=fun x y H Q=>∃ a o,y=.ref a∧DGet H a x o∧Q (.bl (!o.isSome)) H
theorem jk2 {kvs:List (List Key × V)}{k:List Key} (h:Rd H p (.dT kvs)) (hb:H b=some (.tup (k.map kV))) (q:Q (.bl (!(valV kvs k).isSome)) H):rNinK (.ref b) (.ref p) H Q:=⟨p,_,rfl,.inr ⟨kvs,k,b,h,rfl,hb,rfl⟩,q⟩
end
section
variable {X:Cx}
theorem jk3 {k:Nat} (hr:Room k X.A):OpR X (compareOp .NotIn) rNinK:=by
 skip;intro pins s σ H x y v u Q I rx ry h
 obtain⟨a,o,rfl,g,q⟩:=h
 cases ry
 exact ji6 (by have:=hr.un;omega) I g rx fun s' I'=>⟨.bl _,H,I',rfl,q⟩
end
def Itv (a:Addr) (n:Nat):It :=
 ⟨fun i H=>i < n∧∃ xs,H a=some (.lst xs)∧xs.length=n,fun i H x H'=>H'=H∧∀ xs,H a=some (.lst xs)→xs[n-1-i]?=some x,fun i _=>n≤i⟩
theorem jgr {P:Program}{w:World}{K:PySem.W.Frag}{tg:Expr} (a it:Addr) (n:Nat):Turn P w K tg (Itv a n) [it] it (fun i h=>i≤n∧h.IsRevIter it a ((n:Int)-1-(i:Int))) where
 mem:=List.mem_singleton.mpr rfl
 obj:=fun i h st b hb=>by
  cases List.mem_singleton.mp hb
  obtain⟨_,u,e,_,d⟩:=st
  exact⟨u,e,fun v z=>by rw[d] at z;cases z⟩
 keep:=fun i h h' st k=>⟨st.1,let ⟨u,e,r⟩:=st.2;⟨u,k it (List.mem_singleton.mpr rfl) u e,r⟩⟩
 item:=by
  intro X hP hw hK hc i pins s σ H E I hf st hg
  subst hP hw hK
  obtain⟨hi,xs,hq,hx⟩:=hg
  obtain⟨its,rv,p,hz⟩:=I.list (SqL.of hq)
  have hl:=rv.length
  obtain⟨f0,f1,f2,f3,f4,f5⟩:=hf it (List.mem_singleton.mpr rfl)
  have hv:xs[n-1-i]?=some (xs[n-1-i]'(by omega)):=List.getElem?_eq_getElem (by omega)
  obtain⟨u,hu,ru⟩:=rv.get hv
  have e1:(n:Int)-1-(i:Int)=((n-1-i:Nat):Int):=by omega
  have st2:=st.2
  rw[e1] at st2
  refine wpAny_pyNext_rev_item st2 p.isList (x:=u) (by simpa using hu) fun h' st' sb=>?_
  have e2:((n-1-i:Nat):Int)-1=(n:Int)-1-((i+1:Nat):Int):=by omega
  rw[e2] at st'
  have I1:Inv X pins σ H { s with heap:=h' }:=I.turned (t':=s.toks) (fun b o hb e=>(sb.2 b hb).trans e) f0 f1 f3 f4 f5
  obtain⟨o,e,c,d⟩:=id st'
  exact⟨u,rfl,jf6 (s:={ s with heap:=h' }) e c d (by decide) ⟨_,H,I1,ru,⟨rfl,fun ys hy=>by rw[hq] at hy;cases hy;exact hv⟩,⟨hi,st'⟩,fun b hb=>(hf b hb).1⟩⟩
 done:=by
  intro X hP hw hK hc i pins s σ H E I hf st hg
  subst hP hw hK
  have hi:n≤i:=hg
  obtain⟨f0,f1,f2,f3,f4,f5⟩:=hf it (List.mem_singleton.mpr rfl)
  have e1:(n:Int)-1-(i:Int)=-1:=by have:=st.1;omega
  have st2:=st.2
  rw[e1] at st2
  exact wpAny_pyNext_rev_end (I.ok.hd hc) st2 fun h' eb=>⟨rfl,I.turned (t':=s.toks) (fun b o hb e=>eb b o hb e) f0 f1 f3 f4 f5⟩
 self:=fun _ _ _ _ _ st h=>wpAny_pyIter_revIter st.2 h
section
variable {X:Cx}{tg:Expr}
def iRev (ta:TA):TI:=fun σ H R=>ta σ H fun vs H1=>∃ a xs,vs=[.ref a]∧H1 a=some (.lst xs)∧R (Itv a xs.length) H1
theorem pi_rev {a:Expr}{ta:TA}{p pos:Pos} (hg:Gl X "reversed") (hm:X.mg "reversed"=none) (ha:PA X [a] ta) (hs:starEach [a] X.env=[(false,eval a X.env)]:=by rfl):PI X tg (.Call (.Name "reversed" p) [a] [] pos) (iRev ta):=by
 intro pins s σ H R I h
 refine Call_ (j1y I hg hm boot_reversed (PyProof.Rows.callWith_type1 (thn (ha pos pins s σ H _ I h) fun us s1 ⟨vs,H1,I1,r1,q1⟩=>?_) hs rfl))
 obtain⟨p1,xs,e,hx,q⟩:=q1
 subst e
 obtain⟨u,rfl,ru⟩:=j5c r1
 cases ru
 obtain⟨its,rv,pl,hz⟩:=I1.list (SqL.of hx)
 have hl:=rv.length
 refine call_reversed_list pl.isList ?_
 have st:(s1.heap.push (revObj p1 ((its.toArray.size:Int)-1))).IsRevIter s1.heap.objs.size p1 ((xs.length:Int)-1-((0:Nat):Int)):=⟨_,Heap.get?_push_size _ rfl,rfl,by rw[show (xs.length:Int)-1-((0:Nat):Int)=(its.toArray.size:Int)-1 by simp;omega];rfl⟩
 have I2:Inv X pins σ H1 { s1 with heap:=s1.heap.push (revObj p1 ((its.toArray.size:Int)-1)) }:=I1.kept (t':=s1.toks) fun b o e=>Heap.get?_push_of_some _ e
 refine wpAny_pyIter_revIter (s:={ s1 with heap:=s1.heap.push (revObj p1 ((its.toArray.size:Int)-1)) }) st ⟨s1.heap.objs.size,[s1.heap.objs.size],_,_,H1,rfl,I2,jgr p1 _ xs.length,⟨Nat.zero_le _,st⟩,fun b hb=>?_,q⟩
 cases List.mem_singleton.mp hb
 exact I1.fpOk (Nat.le_refl _) (I1.hok.fresh (Nat.le_refl _))
end
section
variable {a:Addr}{g:TG}{tb:TS}{D:Ends}{σ:St}{H:Hp}
theorem jk4 {xs:List V} (Pv:Nat→St→Hp→Prop) (h0:Pv 0 σ H) (hl:∀ i σ H,i≤xs.length→Pv i σ H→H a=some (.lst xs))
  (hs:∀ i x σ H,i < xs.length→xs[xs.length-1-i]?=some x→Pv i σ H→g x σ H fun σ2 H2=>tb { D with nx:=Pv (i+1),ct:=Pv (i+1),bk:=D.nx } σ2 H2) (hd:∀ σ H,Pv xs.length σ H→D.nx σ H) :
  ∃ W:Nat→Nat→St→Hp→Prop,(∃ m,W 0 m σ H)∧∀ i m σ H,W i m σ H →
   ((Itv a xs.length).stop i H∧D.nx σ H)∨((Itv a xs.length).go i H∧∃ N:St→Hp→Prop,(∀ σ' H',N σ' H'→∃ m',m' < m∧W (i+1) m' σ' H')∧∀ x H',(Itv a xs.length).yld i H x H'→g x σ H' fun σ2 H2=>tb { D with nx:=N,ct:=N,bk:=D.nx } σ2 H2):=by
 refine⟨fun i m σ H=>m=xs.length-i∧i≤xs.length∧Pv i σ H,⟨xs.length,by simp,Nat.zero_le _,h0⟩,?_⟩
 rintro i m σ H ⟨rfl,hi,p⟩
 have q:=hl i σ H hi p
 by_cases hlt:i < xs.length
 ·refine .inr ⟨⟨hlt,xs,q,rfl⟩,Pv (i+1),fun σ' H' p'=>⟨xs.length-(i+1),by omega,rfl,hlt,p'⟩,fun x H' y=>?_⟩
  obtain⟨e,y⟩:=y
  subst e
  exact hs i x σ _ hlt (y xs q) p
 ·have e:i=xs.length:=by omega
  subst e
  exact .inl ⟨Nat.le_refl _,hd σ H p⟩
theorem r_irev {ta:TA}{R:It→Hp→Prop} (q:ta σ H fun vs H1=>∃ a xs,vs=[.ref a]∧H1 a=some (.lst xs)∧R (Itv a xs.length) H1):iRev ta σ H R:=q
end
theorem jdk:typeLookup (.type "list_reverseiterator") "__len__"=pure none:=by rw[typeLookup_type,builtinLookup_eq_fast];kernel_rfl
theorem jgs:typeLookup (.type "list_reverseiterator") "__length_hint__"=pure (some (.builtin "list_reverseiterator.__length_hint__")):=by rw[typeLookup_type,builtinLookup_eq_fast];kernel_rfl
section
variable {prog:Program}{w:World}{A:Around}{E:Value→Shared→Prop}{s:Shared}
theorem jgt {I l S:Addr}{xs:Array Value}{R:Result→Shared→Prop} (hh:A.handled=none) (hd:s.heap.IsRevIter I l ((xs.size:Int)-1)) (hl:s.heap.IsList l xs) (ne:l≠I) (nI:S≠I) (nl:S≠l) (hz:xs.size≤sizeLine) (hS:s.heap.get? S=some { cls:=.type "list",data:=.seq #[] })
  (hR:∀ s' acc' c',Moved [S,I] (fun a b=>b=a) s s'→s'.heap.get? S=some { cls:=.type "list",dict:=none,data:=.seq acc' c',slots:=#[] }→ItemsOf (fun i v=>xs[xs.size-1-i]?=some v) acc' xs.size→R (.ok (.ret .none)) s') :
  wpAny (model prog w) A.in1 (Builtin.«list.__init__» ⟨[.ref S,.ref I],[]⟩) (fun fin s'=>match fin with | .done f=>R (.ok f) s' | .again c'=>c'.quiet=true∧codeAny (model prog w) A c' R s') (fun e s'=>R (.error e) s') s:=by
 have W:=(Walks.listRev (prog:=prog) (w:=w) (A:=A.in1) hh I l ne xs).toS
 have nS:S∉[I,l]:=by
  simp only[List.mem_cons,List.mem_nil_iff,or_false,not_or]
  exact⟨nI,nl⟩
 have same:Builtin.List.listSameRef (.ref S) (.ref I)=false:=by simp[Builtin.List.listSameRef,nI]
 show wpAny _ A.in1 (do let old ← Builtin.List.listItems (.ref S);Builtin.List.listUpdate (.ref S) (fun _=>#[]);letGo old.toList.reverse;Builtin.List.listExtendWith (.ref S) (.ref I) .none) _ _ s;refine wpAny_bind ?_
 unfold Builtin.List.listItems;refine wpAny_bind (wpAny_seqItems hS rfl (wpAny_pure ?_))
 show wpAny _ A.in1 (updateSeq S (fun _=>#[]) >>= fun _=>letGo (#[]:Array Value).toList.reverse >>= fun _=>Builtin.List.listExtendWith (.ref S) (.ref I) .none) _ _ s;refine wpAny_bind (wpAny_updateSeq hS rfl ?_)
 have S2:=Heap.get?_update_self (Obj.mapSeq (fun _=>(#[]:Array Value))) hS rfl
 have oth:∀ b o,b≠S→s.heap.get? b=some o→(s.heap.update S (Obj.mapSeq (fun _=>(#[]:Array Value)))).get? b=some o:=fun b o hb e=>(Heap.get?_update_other _ _ (Ne.symm hb)).trans e
 refine wpAny_bind (wpAny_letGo ?_)
 have d2:(s.heap.update S (Obj.mapSeq (fun _=>(#[]:Array Value)))).IsRevIter I l ((xs.size:Int)-1):=hd.at fun o e=>oth I o (Ne.symm nI) e
 have l2:(s.heap.update S (Obj.mapSeq (fun _=>(#[]:Array Value)))).IsList l xs:=hl.at fun o e=>oth l o (Ne.symm nl) e
 have ty:Shared.TypeIs { s with heap:=s.heap.update S (Obj.mapSeq (fun _=>(#[]:Array Value))) } (.ref I) "list_reverseiterator":=d2.typeIs (s:={ s with heap:=s.heap.update S (Obj.mapSeq (fun _=>(#[]:Array Value))) })
 unfold Builtin.List.listExtendWith;refine wpAny_bind (wpAny_typeOf ty ?_)
 rw[if_neg (by rw[same];decide)]
 refine wpAny_bind (wpAny_pyIter_revIter (s:={ s with heap:=s.heap.update S (Obj.mapSeq (fun _=>(#[]:Array Value))) }) d2 (wpAny_bind (wpAny_holding ?_)))
 unfold Builtin.List.listLengthHint;refine wpAny_bind (wpAny_specialOf ty jdk ?_)
 show wpAny _ A.in1 (specialOf (Value.ref I) (Str.ofString "__length_hint__") >>= _) _ _ _;refine wpAny_bind (wpAny_specialOf ty jgs ?_)
 (generalize hid:("list_reverseiterator.__length_hint__":String)=id0;(fail_if_success (clear hid id0));wp_delta;rw[show splitId id0=some ("list_reverseiterator","__length_hint__") from by subst hid;decide +kernel];subst hid)
 refine wpAny_bind (wpAny_isInstance (b:=true) ty (by rw[isSubtype_type];kernel_rfl) ?_)
 refine wpAny_pure ?_;rw[if_neg (by decide)]
 refine wpAny_pure ⟨plainId_quiet F.plain_extend_loop _,codeAny_extend_loopS W hz _ nS _ xs.size 0 _ _ _ rfl (Nat.zero_le _) ⟨Nat.zero_le _,?_,l2⟩ S2 (ItemsOf.nil _) fun s' acc' c' hm hS' hacc=>hR s' acc' c' ⟨fun b o hb e=>?_,hm.gens,hm.drawn,hm.os,hm.toks⟩ hS' hacc⟩
 ·rw[show (xs.size:Int)-1-((0:Nat):Int)=(xs.size:Int)-1 by omega]
  exact d2
 ·have nb:b≠S:=fun z=>hb (by rw[z];exact List.mem_cons_self)
  exact hm.heap b o hb (oth b o nb e)
theorem j72 {I l:Addr}{xs:Array Value}{Q:Value→Shared→Prop} (hh:A.handled=none) (hd:s.heap.IsRevIter I l ((xs.size:Int)-1)) (hl:s.heap.IsList l xs) (ne:l≠I) (hz:xs.size≤sizeLine)
  (hQ:∀ s' acc' c',Moved [s.heap.objs.size,I] (fun a b=>b=a) { s with heap:=s.heap.push { cls:=.type "list",data:=.seq #[] } } s'→s'.heap.get? s.heap.objs.size=some { cls:=.type "list",dict:=none,data:=.seq acc' c',slots:=#[] }→ItemsOf (fun i v=>xs[xs.size-1-i]?=some v) acc' xs.size→Q (.ref s.heap.objs.size) s'):wpAny (model prog w) A (call (.type "list") [.ref I]) Q E s:=by
 have lI:I < s.heap.objs.size:=by obtain⟨o,e,_⟩:=hd;exact Heap.lt_size e
 have ll:l < s.heap.objs.size:=by obtain⟨o,e,_⟩:=hl;exact Heap.lt_size e
 refine callType_codes (Q₁:=fun obj s₁=>obj=.ref s.heap.objs.size∧s₁={ s with heap:=s.heap.push { cls:=.type "list",data:=.seq #[] } }) F.called_list (F.typeCall_list_1 _) F.entry_list_init (code_list_new _ ⟨rfl,rfl⟩) fun obj s₁ h₁=>?_
 obtain⟨rfl,rfl⟩:=h₁
 skip;have hS:(s.heap.push { cls:=.type "list",data:=.seq #[] }).get? s.heap.objs.size=some { cls:=.type "list",data:=.seq #[] }:=Heap.get?_push_size _ rfl
 refine⟨⟨_,hS,rfl⟩,F.args_list_init_2 _ _,jgt (s:={ s with heap:=s.heap.push { cls:=.type "list",data:=.seq #[] } }) hh (hd.at fun o e=>Heap.get?_push_of_some _ e) (hl.at fun o e=>Heap.get?_push_of_some _ e) ne (Nat.ne_of_gt lI) (Nat.ne_of_gt ll) hz hS fun s' acc' c' hm hS' hacc=>?_⟩
 skip;exact⟨rfl,hQ s' acc' c' hm hS' hacc⟩
end
section
variable {X:Cx}
def jb8:List V→Hp→VK→Prop:=fun xs H Q=>∃ p ys,xs=[.ref p]∧H p=some (.lst ys)∧∀ l,H l=none→Q (.ref l) (upd H l (.lst ys.reverse))
theorem jb9 {a:Expr}{ta:TA}{p p' pos pos':Pos} (hc:X.calm=true) (hg:Gl X "list") (hm:X.mg "list"=none) (hg2:Gl X "reversed") (hm2:X.mg "reversed"=none) (ha:PA X [a] ta) (hs:starEach [a] X.env=[(false,eval a X.env)]:=by rfl)
  (ht:starEach [.Call (.Name "reversed" p') [a] [] pos'] X.env=[(false,eval (.Call (.Name "reversed" p') [a] [] pos') X.env)]:=by rfl) :
  PE X (.Call (.Name "list" p) [.Call (.Name "reversed" p') [a] [] pos'] [] pos) (tCB jb8 ta):=by
 skip;intro pins s σ H Q I h
 refine wpAny_Call_Name_kw (j1y I hg hm PyProof.Rows.boot_list (PyProof.Rows.callWith_type1 ?_ ht rfl) (by decide) (by decide));rw[ht]
 show wpAny _ _ (spliced ((false,eval (.Call (.Name "reversed" p') [a] [] pos') X.env) :: backTo pos [])) _ _ s
 refine Calls.spliced_cons (wpAny_Call_Name_kw (j1y I hg2 hm2 boot_reversed (PyProof.Rows.callWith_type1 (thn (ha pos' pins s σ H _ I h) fun us s1 ⟨vs,H1,I1,r1,q1⟩=>?_) hs rfl) (by decide) (by decide)))
 obtain⟨p1,ys,e,hx,q⟩:=q1
 subst e
 obtain⟨u,rfl,ru⟩:=j5c r1
 cases ru
 obtain⟨its,ri,pl,hz⟩:=I1.list (SqL.of hx)
 have hl:=ri.length
 have z1:its.toArray.size≤sizeLine:=by rw[List.size_toArray];omega
 refine call_reversed_list pl.isList (Calls.spliced_nil ?_)
 have lp:p1 < s1.heap.objs.size:=by obtain⟨o,ho,_⟩:=pl.isList;exact Heap.lt_size ho
 refine j72 (s:={ s1 with heap:=s1.heap.push (revObj p1 ((its.toArray.size:Int)-1)) }) (I1.ok.hd hc) ⟨_,Heap.get?_push_size _ rfl,rfl,rfl⟩ (pl.isList.at fun o e=>Heap.get?_push_of_some _ e) (Nat.ne_of_lt lp) z1 fun s' acc c hm hS hacc=>?_
 have e:=jfy hacc
 have n1:H1 s1.heap.objs.size=none:=I1.hok.fresh (Nat.le_refl _)
 obtain⟨h',g',d',t',o'⟩:=s'
 have e1:g'=s1.gens:=hm.gens
 have e2:d'=s1.drawn:=hm.drawn
 have e3:o'=s1.os:=hm.os
 subst e1 e2 e3
 have sz:(s1.heap.push (revObj p1 ((its.toArray.size:Int)-1))).objs.size=s1.heap.objs.size+1:=Heap.size_push ..
 have kk:∀ b o,s1.heap.get? b=some o→h'.get? b=some o:=fun b o e=>by
  have lb:=Heap.lt_size e
  refine hm.heap b o (fun z=>?_) (Heap.get?_push_of_some _ (Heap.get?_push_of_some _ e))
  rcases List.mem_cons.mp z with z | z
  ·exact Nat.ne_of_lt (Nat.lt_succ_of_lt lb) (by rw[sz] at z;exact z)
  ·exact Nat.ne_of_lt lb (List.mem_singleton.mp z)
 have hS':h'.get? (s1.heap.objs.size+1)=some { cls:=.type "list",dict:=none,data:=.seq acc c,slots:=#[] }:=by rw[← sz];exact hS
 have I3:Inv X pins σ (upd H1 (s1.heap.objs.size+1) (.lst ys.reverse)) { s1 with heap:=h',toks:=t' } :=
  I1.laid (t':=t') kk (Nat.le_succ _) (show ObjOk X.prog X.w _ _ _ (.lst ys.reverse) from⟨by rw[List.length_reverse];exact hz,its.reverse,c,Vals.reverse ri,by rw[hS',← e]⟩)
 refine⟨.ref (s1.heap.objs.size+1),_,I3,by rw[sz];rfl,q _ (I1.hok.fresh (Nat.le_succ _))⟩
end
section
variable {H:Hp}{Q:VK}
theorem jdl {p:Addr}{xs:List V} (h:H p=some (.lst xs)) (q:∀ l H',H l=none→H' l=some (.lst xs.reverse)→Ext H H'→Q (.ref l) H'):jb8 [.ref p] H Q:=⟨p,xs,rfl,h,fun l n=>q l _ n j07 (j0j n)⟩
end
theorem xd_sub:isSubtype (.type "dict") (.type "dict")=pure true:=by rw[isSubtype_type];kernel_rfl
theorem jgu {prog:Program}{w:World}{A:Around} (hh:A.handled=none) (I d:Addr) (nd:d≠I) {o:Obj}{es:Array DictEntry}{ep:Nat} (hc:o.ExactDict) (hd:o.data=.dict es ep) :
  Walks prog w A I [I,d] [I] es.size (fun i v=>(es[i]?).map (·.key)=some v) (fun i h=>h.IsKeyIter I d i es.size ep∧h.get? d=some o) where
 sub:=fun b hb=>by rw[List.mem_singleton.mp hb];simp
 frame:=fun _ _ _ x hk=>⟨let ⟨u,e,r⟩:=x.1;⟨u,hk I (by simp) u e,r⟩,hk d (by simp) _ x.2⟩
 item:=fun i s Q E hi x (hQ)=>by
  refine jep x.1 x.2 hc hd hi fun h' st' sb=>?_
  refine hQ _ h' s.toks ?_ ⟨st',(sb.2 d nd).trans x.2⟩ fun b u hb eu=>sb.extBut b u (fun h=>hb (by simp[h])) eu
  rw[Array.getElem?_eq_getElem hi]
  rfl
 done:=fun s Q E x hQ=>jjz hh x.1 x.2 hc hd (Nat.le_refl _) fun h' he'=>hQ h' s.toks fun b u hb eu=>he' b u (fun h=>hb (by simp[h])) eu
 self:=fun _ _ _ _ x hQ=>jeq x.1 hQ
section
variable {prog:Program}{w:World}{A:Around}{E:Value→Shared→Prop}{s:Shared}
theorem jba {d:Addr}{o:Obj}{es:Array DictEntry}{ep:Nat}{Q:List Value→Shared→Prop} (hh:A.handled=none) (lo:(d == sysModules)=false) (hS:s.heap.get? d=some o) (hc:o.ExactDict) (hd:o.data=.dict es ep) (hz:es.size≤sizeLine)
  (hQ:∀ s' acc,Moved [] (fun a b=>b=a) s s'→s.heap.objs.size < s'.heap.objs.size→ItemsOf (fun i v=>(es[i]?).map (·.key)=some v) acc es.size→Q acc.toList s'):wpAny (model prog w) A (collect (.ref d)) Q E s:=by
 have lS:d < s.heap.objs.size:=Heap.lt_size hS
 have nd:s.heap.objs.size≠d:=Nat.ne_of_gt lS
 unfold collect;refine wpAny_bind (wpAny_runValue (codeAny_builtin F.entry_proto_collect ?_));rw[Around.under_plainId F.plain_proto_collect _]
 show wpAny _ A.in1 (newList [] >>= fun x=>again (.builtin "list.__iadd__" ⟨[x,.ref d],[]⟩)) _ _ s
 refine wpAny_bind (wpAny_newObj_type (wpAny_pure ⟨plainId_quiet F.plain_list_iadd _,codeAny_builtin F.entry_list_iadd ?_⟩));rw[Around.under_plainId F.plain_list_iadd _]
 have d1:(s.heap.push { cls:=.type "list",data:=.seq ([]:List Value).toArray }).get? d=some o:=Heap.get?_push_of_some _ hS
 have S1:(s.heap.push { cls:=.type "list",data:=.seq ([]:List Value).toArray }).get? s.heap.objs.size=some { cls:=.type "list",data:=.seq ([]:List Value).toArray }:=Heap.get?_push_size _ rfl
 have same:Builtin.List.listSameRef (.ref s.heap.objs.size) (.ref d)=false:=by simp[Builtin.List.listSameRef,nd]
 show wpAny _ A.in1 (Builtin.List.listExtendWith (.ref s.heap.objs.size) (.ref d) (.ref s.heap.objs.size)) _ _ _;unfold Builtin.List.listExtendWith
 refine wpAny_bind (wpAny_typeOf (T:="dict") ⟨_,d1,hc.1⟩ ?_)
 rw[if_neg (by rw[same];decide)]
 refine wpAny_bind (jeo lo d1 hc hd fun h2 st2 k2=>wpAny_bind (wpAny_holding ?_))
 have n1:(s.heap.push { cls:=.type "list",data:=.seq ([]:List Value).toArray }).objs.size=s.heap.objs.size+1:=by rw[Heap.size_push]
 rw[show ({ s with heap:=s.heap.push { cls:=.type "list",data:=.seq ([]:List Value).toArray } }:Shared).heap.objs.size=s.heap.objs.size+1 from n1] at st2
 rw[n1]
 have d2:=k2 _ _ d1
 have S2:=k2 _ _ S1
 have te:Shared.TypeIs { s with heap:=h2 } (.ref d) "dict":=⟨_,d2,hc.1⟩
 unfold Builtin.List.listLengthHint;refine wpAny_bind (wpAny_specialOf (T:="dict") te PySem.F.slot_dict_len.lookup ?_)
 (generalize hid:("dict.__len__":String)=id0;(fail_if_success (clear hid id0));wp_delta;rw[show splitId id0=some ("dict","__len__") from by subst hid;decide +kernel];subst hid)
 refine wpAny_bind (wpAny_isInstance (T:="dict") (b:=true) te xd_sub ?_)
 rw[if_neg (by decide)];rw[if_pos (by decide +kernel)]
 refine wpAny_bind (wpAny_typeOf (T:="dict") te (wpAny_pure ?_))
 rw[if_pos (by decide +kernel)]
 refine wpAny_bind (wpAny_rule (wpAny_bind ?_))
 have S3:=Heap.get?_update_self (Obj.mapSeq (·.push Value.none)) S2 rfl
 show wpAny _ A.in1 (updateSeq s.heap.objs.size (·.push .none) >>= fun _=>updateSeq s.heap.objs.size (·.pop)) _ _ _;refine wpAny_bind (wpAny_updateSeq S2 rfl (wpAny_updateSeq S3 rfl ?_))
 have S4:=Heap.get?_update_self (Obj.mapSeq (·.pop)) S3 rfl
 have oth:∀ b u,b≠s.heap.objs.size→h2.get? b=some u→((h2.update s.heap.objs.size (Obj.mapSeq (·.push Value.none))).update s.heap.objs.size (Obj.mapSeq (·.pop))).get? b=some u :=
  fun b u nb e=>(Heap.get?_update_other _ _ (Ne.symm nb)).trans ((Heap.get?_update_other _ _ (Ne.symm nb)).trans e)
 have neI:d≠s.heap.objs.size+1:=Nat.ne_of_lt (Nat.lt_succ_of_lt lS)
 have W:=(jgu (prog:=prog) (w:=w) (A:=A.in1) hh (s.heap.objs.size+1) d neI hc hd).toS
 have nS:s.heap.objs.size∉[s.heap.objs.size+1,d]:=by
  simp only[List.mem_cons,List.mem_nil_iff,or_false,not_or]
  exact⟨Nat.ne_of_lt (Nat.lt_succ_self _),nd⟩
 refine wpAny_pure ⟨plainId_quiet F.plain_extend_loop _,codeAny_extend_loopS W hz _ nS _ es.size 0 _ _ _ rfl (Nat.zero_le _) ⟨?_,oth d _ nd.symm d2⟩ S4 (ItemsOf.nil _) fun s' acc' c' hm hS' hacc=>wpAny_bind (wpAny_load hS' (wpAny_pure (hQ s' acc' ⟨fun b u _ e=>?_,hm.gens,hm.drawn,hm.os,hm.toks⟩ (Heap.lt_size hS') hacc)))⟩
 ·obtain⟨u,e,r⟩:=st2
  exact⟨u,oth _ _ (Nat.ne_of_gt (Nat.lt_succ_self _)) e,r⟩
 ·have lb:=Heap.lt_size e
  refine hm.heap b u (fun q=>?_) (oth b u (Nat.ne_of_lt lb) (k2 _ _ (Heap.get?_push_of_some _ e)))
  skip;rcases List.mem_cons.mp q with q | q
  ·exact Nat.ne_of_lt lb q
  ·exact Nat.ne_of_lt (Nat.lt_succ_of_lt lb) (List.mem_singleton.mp q)
theorem jes {es:Array DictEntry}{acc:Array Value} (h:ItemsOf (fun i v=>(es[i]?).map (·.key)=some v) acc es.size):acc.toList=es.toList.map (·.key):=by
 refine j5t (P:=fun i v=>(es[i]?).map (·.key)=some v) (by rw[List.length_map,Array.length_toList];exact h) fun i v hv=>?_
 rw[List.getElem?_map,Array.getElem?_toList]
 exact hv
end
def del (H:Hp) (d:Addr):Hp:=fun b=>if b=d then none else H b
theorem j3g {H:Hp}{d:Addr}:del H d d=none:=if_pos rfl
theorem j1k {H:Hp}{d b:Addr} (h:b≠d):del H d b=H b:=if_neg h
abbrev czO (oc:Obj) (d:Addr):HO:=.frz oc (.own d)
section
variable {P:Program}{w:World}{H H':Hp}{h h':Heap}{d:Addr}{oc:Obj}{fs:List Addr}
theorem HOk.del (ok:HOk P w H h) (hd:H d=some (czO oc d)):HOk P w (del H d) h:=fun b u e=>by
 have nb:b≠d:=fun z=>by rw[z,j3g] at e;cases e
 rw[j1k nb] at e
 refine (ok b u e).stay (fun _ _ _ q=>q) (fun c q=>?_) fun c xs q=>?_
 ·rw[j1k (fun z=>by rw[z,hd] at q;cases q)];exact q
 ·rw[j1k (fun z=>by rw[z,hd] at q;cases q)];exact q
theorem HOk.add (ok:HOk P w H h) (hd:H d=none) (g:h.get? d=some oc):HOk P w (upd H d (czO oc d)) h:=fun b u e=>by
 by_cases nb:b=d
 ·subst nb
  rw[j07] at e
  cases e
  exact⟨g,oc,g⟩
 ·rw[j08 nb] at e
  exact (ok b u e).stay (fun _ _ _ q=>q) (fun c q=>by rw[j08 (j05 q hd)];exact q) fun c xs q=>by rw[j08 (j05 q hd)];exact q
theorem Un.unfreeze (u:Un fs [] (upd H d (czO oc d)) H' h h') (hd:H d=none) (g:h.get? d=some oc) (g':h'.get? d=some oc):Un fs [] H (L2.del H' d) h h':=by
 have up:∀ {b:Addr},H b=none→b≠d→upd H d (czO oc d) b=none:=fun n nb=>by rw[j08 nb];exact n
 have us:∀ {b:Addr}{v:HO},H b=some v→upd H d (czO oc d) b=some v∧b≠d:=fun q=>by
  have nb:=j05 q hd
  exact⟨by rw[j08 nb];exact q,nb⟩
 refine⟨fun b o q n hb hx=>?_,fun b o q n hb hx=>?_,fun b o q n hx=>?_,fun b o q hx=>u.there b o q hx,fun b xs q=>?_,fun b o v q=>?_,fun b ps q=>?_⟩
 ·by_cases nb:b=d
  ·subst nb;rw[g] at q;cases q;exact g'
  ·exact u.keep b o q (up n nb) hb hx
 ·by_cases nb:b=d
  ·subst nb;rw[g] at q;cases q;exact⟨oc.slots,g'⟩
  ·exact u.slot b o q (up n nb) hb hx
 ·by_cases nb:b=d
  ·rw[nb];exact j3g
  ·rw[j1k nb];exact u.free b o q (up n nb) hx
 ·rw[j1k (us q).2];exact u.tups b xs (us q).1
 ·rw[j1k (us q).2];exact u.frzs b o v (us q).1
 ·obtain⟨m,hm⟩:=u.tbls b ps (us q).1
  exact⟨m,by rw[j1k (us q).2];exact hm⟩
theorem Un.refreeze (u:Un fs [] (L2.del H d) H' h h') (hd:H d=some (czO oc d)) (nf:d∉fs) (g:h.get? d=some oc):h'.get? d=some oc∧H' d=none∧Un fs [] H (upd H' d (czO oc d)) h h':=by
 have g':=u.keep d oc g j3g nf (by simp)
 have n':=u.free d oc g j3g (by simp)
 have dn:∀ {b:Addr},H b=none→L2.del H d b=none∧b≠d:=fun {b} n=>by
  have nb:b≠d:=fun z=>by rw[z,hd] at n;cases n
  exact⟨by rw[j1k nb];exact n,nb⟩
 refine⟨g',n',fun b o q n hb hx=>u.keep b o q (dn n).1 hb hx,fun b o q n hb hx=>u.slot b o q (dn n).1 hb hx,fun b o q n hx=>?_,fun b o q hx=>u.there b o q hx,fun b xs q=>?_,fun b o v q=>?_,fun b ps q=>?_⟩
 ·rw[j08 (dn n).2];exact u.free b o q (dn n).1 hx
 ·have nb:b≠d:=fun z=>by rw[z,hd] at q;cases q
  rw[j08 nb];exact u.tups b xs (by rw[j1k nb];exact q)
 ·by_cases nb:b=d
  ·subst nb;rw[hd] at q;cases q;exact j07
  ·rw[j08 nb];exact u.frzs b o v (by rw[j1k nb];exact q)
 ·have nb:b≠d:=fun z=>by rw[z,hd] at q;cases q
  obtain⟨m,hm⟩:=u.tbls b ps (by rw[j1k nb];exact q)
  exact⟨m,by rw[j08 nb];exact hm⟩
end
def CellH (H:Hp) (d:Addr) (v:V):Prop:=∃ (oc:Obj) (u:Value),H d=some (czO oc d)∧oc.data=.cell (some u)∧RelV v u
theorem CellH.mono {H H':Hp}{d:Addr}{v:V} (e:ExtT H H') (h:CellH H d v):CellH H' d v:=let ⟨oc,u,a,b⟩:=h;⟨oc,u,e _ _ a rfl,b⟩
theorem CellH.but {H H':Hp}{d r C dx:Addr}{fs:List (Str × V)}{v:V} (hr:H r=some (.ins C dx fs)) (e:But r H H') (h:CellH H d v):CellH H' d v:=let ⟨oc,u,a,b⟩:=h;⟨oc,u,e _ _ (fun z=>by rw[z,hr] at a;cases a) a,b⟩
theorem CellH.butL {H H':Hp}{d r:Addr}{xs:List V}{v:V} (hr:H r=some (.lst xs)) (e:But r H H') (h:CellH H d v):CellH H' d v:=let ⟨oc,u,a,b⟩:=h;⟨oc,u,e _ _ (fun z=>by rw[z,hr] at a;cases a) a,b⟩
def jk5 (sp:Sp) (i:Nat) (d:Addr) (t:TA):TE:=fun σ H Q=>t σ H fun vs H1=>∃ v,σ[i]?=some (some v)∧(H1 d=none→∀ oc u,oc.data=.cell (some u)→RelV v u→sp vs (upd H1 d (czO oc d)) (fun r H2=>Q r (del H2 d)) E0)
section
variable {X:Cx}{P:Program}{w:World}{k i:Nat}{f d:Addr}{fd:FuncData}{ps:List Str}{sp:Sp}{x y:Str}{p pos:Pos}{e:Expr}{es:List Expr}{t:TA}
theorem jgv {pins:List (Addr × Obj)}{σ:St}{H:Hp}{s:Shared} (I:Inv X pins σ H s) (hc:X.env.cells.lookup y=some d) (hf:X.fn y=true):X.base.get? d=none∧d∉frs X.stack:=by
 have lo:=I.ok.cab y d hf hc
 refine⟨?_,fun z=>?_⟩
 ·cases q:X.base.get? d with
  | none=>rfl
  | some o=>exact absurd (Nat.lt_of_lt_of_le (Heap.lt_size q) I.ok.bsz) (Nat.not_lt.mpr lo)
 ·rcases List.mem_cons.mp (I.stkSub d z) with z | z
  ·obtain⟨v,oc,g,hd⟩:=I.cell y d hc
   obtain⟨m,⟨o,es,ep,g2,hd2,_⟩,_⟩:=I.loc
   rw[← z,g] at g2
   cases g2
   rw[hd] at hd2
   cases hd2
  ·obtain⟨_,o,ho,_⟩:=I.ok.funs.mem z
   exact absurd (Heap.lt_size ho) (Nat.not_lt.mpr lo)
theorem jgw (F:FnOk X.prog X.w X.K X.mg X.base (CXU P w) k f fd ps sp) (hr:Room k X.A) (hg:Gl X x) (hm:X.mg x=some (.ref f)) (hk:PySem.W.keepIn X.K (.ref f)=true) (hb:Binds X.K fd ps []) (hN:X.N[i]?=some y) (hy:X.env.scope.names.lookup y=some .cell) (hc:X.env.cells.lookup y=some d) (hf:X.fn y=true)
  (ha:PA X (e :: es) t) (hdb:(x == ("__debug__":Str))=false:=by decide) (he:starEach (e :: es) X.env=(false,eval e X.env) :: starEach es X.env:=by rfl) (hpl:(backTo pos (starEach es X.env)).any (·.1)=false:=by rfl) :
  PE X (.Call (.Name x p) (e :: es) [] pos) (jk5 sp i d t):=by
 skip;intro pins s σ H Q I h
 refine wpAny_Call_Name_kw (j7k I hg hm ?_ hdb)
 refine PySem.W.callWith_K (h₀:=X.base) I.ok.mod.kin hk (thn (ha pos pins s σ H _ I h) fun us s1 ⟨vs,H1,I1,r,v,ev,q⟩=>⟨I1.kIn,?_⟩) he hpl
 obtain⟨m,hns,hloc⟩:=I1.loc
 obtain⟨u,ru,lk⟩:=hloc i y v hN ev (.inr (.inl hy))
 obtain⟨oc,g,hd⟩:s1.heap.IsCell d (some u):=by
  rcases lk with⟨z,_⟩ | ⟨_,c,ec,ic⟩
  ·rw[show X.env.kindOf y=some .cell from hy] at z;cases z
  ·rw[hc] at ec;cases ec;exact ic
 have nd:H1 d=none:=I1.freeC y d hc
 obtain⟨nb,nf⟩:=jgv I1 hc hf
 have hsp:=q nd oc u hd ru
 have hl:us.length=ps.length:=by rw[← r.length];exact F.len _ _ _ _ hsp
 have e0:Env0 X.prog X.w X.K X.mg X.base X.A X.stack s1 (upd H1 d (czO oc d)) :=
  ⟨I1.ok.frames,I1.ok.mod,fun b o e=>⟨(I1.bs b o e).1,by rw[j08 (fun z=>by rw[z,nb] at e;cases e)];exact (I1.bs b o e).2⟩,Nat.le_trans I1.ok.bsz I1.sz,I1.stack,fun b hb=>by have nz:b≠d:=fun z=>nf (z ▸ hb);rw[j08 nz];exact I1.stkFree b hb,I1.hok.add nd g,I1.bare⟩
 refine wpAny_call (codeAny_mono (F.run X.A X.stack s1 _ ⟨us,[]⟩ us vs _ E0 hr e0 (by have:=hb s1 us I1.kIn (by simpa using hl);rw[List.append_nil] at this;exact this) r hsp) fun rr s' hq=>?_)
 cases rr with
 | error er =>
  obtain⟨_,_,_,_,_,_,_,_,_,_,z⟩:=hq
  exact z.elim
 | ok fl =>
  cases fl with
  | ret uu =>
   obtain⟨vv,H',os,bare,un,hok,rv,qv⟩:=hq
   have hz:=un.frzs d _ _ j07
   obtain⟨g',_⟩:=(show ObjOk X.prog X.w H' s'.heap d (czO oc d) from hok d _ hz)
   exact⟨vv,_,I1.call' (ch:=[]) os (un.unfreeze nd g g') (hok.del hz) bare (fun b z=>absurd z (by simp)),rv,qv⟩
  | next=>exact False.elim hq
  | brk=>exact False.elim hq
  | cont=>exact False.elim hq
end
def LamHC (H:Hp) (f:Addr) (qual:Str) (params:Arguments) (lb:Expr) (sc:Scope) (y:Str) (d:Addr):Prop:=∃ (c:Addr) (pm ctv:Value),H f=some (.frz (PySem.W.kla_obj "<lambda>" qual params lb sc [(y,d)] pm c ctv) (.own f))∧CodeH H c qual
section
variable {H H':Hp}{f d:Addr}{qual y:Str}{params:Arguments}{lb:Expr}{sc:Scope}
theorem LamHC.mono (e:ExtT H H') (h:LamHC H f qual params lb sc y d):LamHC H' f qual params lb sc y d:=let ⟨c,pm,ctv,h1,h2⟩:=h;⟨c,pm,ctv,e _ _ h1 rfl,h2.mono e⟩
theorem LamHC.but {r C dx:Addr}{fs:List (Str × V)} (hr:H r=some (.ins C dx fs)) (e:But r H H') (h:LamHC H f qual params lb sc y d):LamHC H' f qual params lb sc y d:=by
 obtain⟨c,pm,ctv,h1,oc,vs,t,k,k2⟩:=h
 exact⟨c,pm,ctv,e _ _ (fun z=>by rw[z,hr] at h1;cases h1) h1,oc,vs,t,e _ _ (fun z=>by rw[z,hr] at k;cases k) k,k2⟩
theorem LamHC.butL {r:Addr}{xs:List V} (hr:H r=some (.lst xs)) (e:But r H H') (h:LamHC H f qual params lb sc y d):LamHC H' f qual params lb sc y d:=by
 obtain⟨c,pm,ctv,h1,oc,vs,t,k,k2⟩:=h
 exact⟨c,pm,ctv,e _ _ (fun z=>by rw[z,hr] at h1;cases h1) h1,oc,vs,t,e _ _ (fun z=>by rw[z,hr] at k;cases k) k,k2⟩
end
theorem jbb {X:Cx}{pins:List (Addr × Obj)}{σ:St}{H:Hp}{s:Shared}{A:Around}{x y qual:Str}{scope:Scope}{cs:List (Str × Addr)}{f c d:Addr}{oc:Obj}{h':Heap}{tk:Nat}{v vy:V}{u uy:Value}{m:Str→Option Value} (I:Inv X pins σ H s)
  (hk:scope.kind=.function) (hA:A.frames=some X.stack) (hh:A.handled=none) (r:RelV v u) (ry:RelV vy uy) (hd:H d=some (czO oc d)) (hoc:oc.data=.cell (some uy)) (hns:h'.Ns s.heap.objs.size m) (hkp:∀ b o,s.heap.get? b=some o→h'.get? b=some o)
  (hcs:∀ z e,cs.lookup z=some e→(z=y∧e=d)∨(z=x∧e=s.heap.objs.size+1∧h'.IsCell e (some u))) (has:∀ z,scope.names.lookup z=some .cell∨scope.names.lookup z=some .free→∃ e,cs.lookup z=some e) (hy:scope.names.lookup y=some .free) (hyd:cs.lookup y=some d)
  (hx:(scope.names.lookup x=some .local∧m x=some u)∨(scope.names.lookup x=some .cell∧cs.lookup x=some (s.heap.objs.size+1)∧h'.IsCell (s.heap.objs.size+1) (some u))) :
  Inv (jek X pins [x,y] qual scope cs f c A s (del H d)) [] [some v,some vy] (del H d) { s with heap:=h',toks:=tk }:=by
 obtain⟨gd,_⟩:=(show ObjOk X.prog X.w H s.heap d (czO oc d) from I.hok d _ hd)
 have ld:d < s.heap.objs.size:=Heap.lt_size gd
 have gd':=hkp _ _ gd
 have dn:∀ {b:Addr},H b=none→del H d b=none:=fun {b} n=>by rw[j1k (fun z=>by rw[z,hd] at n;cases n)];exact n
 have noA:∀ b:Addr,b∉(jek X pins [x,y] qual scope cs f c A s (del H d)).ex:=fun b z=>absurd (show b∈([]:List Addr) from z) (by simp)
 have fresh:∀ {b:Addr},s.heap.objs.size≤b→del H d b=none:=fun h=>dn (I.hok.fresh h)
 refine⟨⟨I.ok.mod,hk,rfl,rfl,Nat.le_refl _,fun z z' e h1 h2=>?_,fun z hz=>has z hz,(fun z e q=>Bool.noConfusion (show false=true from q)),fun _=>hh,Around.frames_deeper hA,.inr ⟨rfl,rfl⟩,fun b z=>absurd z (noA b),
  fun b o e=>⟨(I.bs b o e).1,dn (I.bs b o e).2⟩,Nat.le_trans I.ok.bsz I.sz,fun b _ _=>noA b,fun b z=>absurd z (noA b),I.stack,fun b hb=>dn (I.stkFree b hb)⟩,rfl,I.bare,Un.kept hkp,⟨_,hns,fun i z w e1 e2 e3=>?_⟩,fun z e h=>?_,fresh (Nat.le_refl _),fun z e h=>?_,fun p hp=>?_,(I.hok.del hd).kept hkp,rfl⟩
 ·rcases hcs z e h1 with⟨q1,q2⟩ | ⟨q1,q2,_⟩ <;> rcases hcs z' e h2 with⟨p1,p2⟩ | ⟨p1,p2,_⟩
  ·rw[q1,p1]
  ·exact absurd (q2.symm.trans p2) (Nat.ne_of_lt (Nat.lt_succ_of_lt ld))
  ·exact absurd (p2.symm.trans q2) (Nat.ne_of_lt (Nat.lt_succ_of_lt ld))
  ·rw[q1,p1]
 ·match i with
  | 0 =>
   have e1':x=z:=by have q:([x,y]:List Str)[0]?=some z:=e1;simpa using q
   have e2':v=w:=by simpa using e2
   subst e1' e2'
   refine⟨u,r,?_⟩
   rcases hx with⟨a,b⟩ | ⟨a,b,g⟩
   ·exact .inl ⟨a,b⟩
   ·exact .inr ⟨.inl a,_,b,g⟩
  | 1 =>
   have e1':y=z:=by have q:([x,y]:List Str)[1]?=some z:=e1;simpa using q
   have e2':vy=w:=by simpa using e2
   subst e1' e2'
   exact⟨uy,ry,.inr ⟨.inr hy,d,hyd,oc,gd',hoc⟩⟩
  | i+2=>simp at e2
 ·rcases hcs z e h with⟨q1,q2⟩ | ⟨q1,q2,q3⟩
  ·subst q2;exact⟨_,oc,gd',hoc⟩
  ·exact⟨_,q3⟩
 ·rcases hcs z e h with⟨q1,q2⟩ | ⟨q1,q2,_⟩
  ·subst q2;exact j3g
  ·subst q2;exact fresh (Nat.le_succ _)
 ·have hp':p∈X.pn++pins:=by
   rcases List.mem_append.mp hp with q | q
   ·exact q
   ·simp at q
  obtain⟨q1,q2,q3,q4,q5⟩:=I.pin p hp'
  refine⟨hkp _ _ q1,dn q2,Nat.ne_of_lt (Heap.lt_size q1),fun z=>?_,q5⟩
  rcases List.mem_cons.mp (I.stkSub _ z) with b | b
  ·exact q3 b
  ·exact q4 b
structure LamC1 (sc:Scope) (x y:Str):Prop where
 kind:sc.kind=.function
 co:sc.isCoroutine=false
 gen:sc.isGenerator=false
 nc:∀ z∈sc.names,z.2≠.cell
 par:sc.names.lookup x=some .local
 fre:sc.names.lookup y=some .free
 only:∀ z∈sc.names,z.2=.free→z.1=y
structure LamC2 (sc:Scope) (x y:Str) (rest:List (Str × NameKind)):Prop where
 kind:sc.kind=.function
 co:sc.isCoroutine=false
 gen:sc.isGenerator=false
 names:sc.names=(x,.cell) :: rest
 nc:∀ z∈rest,z.2≠.cell
 ne:x≠y
 fre:sc.names.lookup y=some .free
 only:∀ z∈sc.names,z.2=.free→z.1=y
abbrev LAC (α:Type):=List (Addr × Obj)→Addr→Addr→Shared→Addr→Hp→α
section
variable {X:Cx}{pins:List (Addr × Obj)}{σ:St}{H:Hp}{s:Shared}
theorem jdm {A:Around}{E:Value→Shared→Prop}{k:Nat}{x y qual:Str}{params:Arguments}{body:Expr}{scope:Scope}{cs:List (Str × Addr)}{f c d:Addr}{pm ctv:Value}{t:TE}{v vy:V}{u:Value}{Q:VK} (I:Inv X pins σ H s) (hk:scope.kind=.function) (hco:scope.isCoroutine=false) (hgen:scope.isGenerator=false)
  (hA:A.frames=some X.stack) (hr:Room (k+1) A) (hf:H f=some (.frz (PySem.W.kla_obj "<lambda>" qual params body scope [(y,d)] pm c ctv) (.own f))) (hc:CodeH H c qual) (hC:CellH H d vy) (r:RelV v u)
  (hbind:bindArgs (PySem.W.kla_fn "<lambda>" qual params body scope [(y,d)] pm (.ref c) ctv) ⟨[u],[]⟩=pure [(x,u)])
  (hfr:∀ (Q':Env→Shared→Prop) (E':Value→Shared→Prop),(∀ h' tk m,h'.Ns s.heap.objs.size m→(∀ b o,s.heap.get? b=some o→h'.get? b=some o)→(∀ z e,cs.lookup z=some e→(z=y∧e=d)∨(z=x∧e=s.heap.objs.size+1∧h'.IsCell e (some u))) →
    ((scope.names.lookup x=some .local∧m x=some u)∨(scope.names.lookup x=some .cell∧cs.lookup x=some (s.heap.objs.size+1)∧h'.IsCell (s.heap.objs.size+1) (some u)))→Q' (PySem.W.envX qual scope s.heap.objs.size f (.ref c) cs) { s with heap:=h',toks:=tk }) →
   wpAny (model X.prog X.w) A.in1 (newFunctionEnv scope mainGlobals [(y,d)] [(x,u)] (qual++".<locals>.") (some f) (.ref c) none builtinsNs) Q' E' s)
  (has:∀ z,scope.names.lookup z=some .cell∨scope.names.lookup z=some .free→∃ e,cs.lookup z=some e) (hy:scope.names.lookup y=some .free) (hyd:cs.lookup y=some d)
  (hb:PE (jek X pins [x,y] qual scope cs f c A s (del H d)) body t) (hq:t [some v,some vy] (del H d) fun r H2=>H2 d=none→∀ oc,H d=some (czO oc d)→Q r (upd H2 d (czO oc d))):wpAny (model X.prog X.w) A (call (.ref f) [u]) (EP X pins σ Q) E s:=by
 obtain⟨ho,_⟩:=(show ObjOk X.prog X.w _ _ f (.frz _ (.own f)) from I.hok f _ hf)
 obtain⟨oc,uy,hd,hoc,ry⟩:=hC
 obtain⟨gd,_⟩:=(show ObjOk X.prog X.w H s.heap d (czO oc d) from I.hok d _ hd)
 have nf:d∉frs X.stack:=fun z=>by have:=I.stkFree d z;rw[hd] at this;cases this
 refine wpAny_call (PySem.W.kla_callFunE hr.depth ho rfl hco hgen rfl (hc.record I.hok) ?_)
 rw[hbind]
 refine wpAny_pure (hfr _ _ fun h₁ tk m hns hk₁ hcs hx=>⟨I.nolimit.keeps hk₁,?_⟩)
 have J:=jbb (A:=A) (qual:=qual) (f:=f) (c:=c) (tk:=tk) I hk hA hr.hd r ry hd hoc hns hk₁ hcs has hy hyd hx
 show codeAny _ _ (.expr body (PySem.W.envX qual scope s.heap.objs.size f (.ref c) cs)) _ _
 refine PySem.W.kla_codeExpr (wpAny_mono (hb [] _ _ (del H d) _ J hq) (fun u' s' ⟨v',H',J',r',q'⟩=>?_) fun _ _ z=>False.elim z)
 obtain⟨g',n',un⟩:=Un.refreeze J'.base hd nf gd
 have I':Inv X pins σ (upd H' d (czO oc d)) s':=I.call' (ch:=[]) J'.os un (J'.hok.add n' g') J'.bare fun b z=>absurd z (by simp)
 exact⟨v',_,I',r',q' n' oc hd⟩
end
def jet (i:Nat) (qual:Str) (params:Arguments) (lb:Expr) (sc:Scope) (y:Str) (t:TA) (tb:LAC TE):TE:=fun σ H Q=>∃ f d vy,σ[i]?=some (some (.ref f))∧LamHC H f qual params lb sc y d∧t σ H fun vs H1=>∃ v,vs=[v]∧LamHC H1 f qual params lb sc y d∧CellH H1 d vy ∧
 ∀ pins c s,tb pins f c s d (del H1 d) [some v,some vy] (del H1 d) fun r H2=>H2 d=none→∀ oc,H1 d=some (czO oc d)→Q r (upd H2 d (czO oc d))
section
variable {X:Cx}{k i:Nat}{p pos:Pos}{e lb:Expr}{t:TA}{params:Arguments}{sc:Scope}{x y z qual:Str}{tb:LAC TE}{rest:List (Str × NameKind)}
theorem jdn (hN:X.N[i]?=some x) (hv:Vis X.env.scope x) (ha:PA X [e] t) (hd:(x == ("__debug__":Str))=false) (hcd:(x == ("__classdict__":Str))=false)
  (he:starEach [e] X.env=[(false,eval e X.env)])
  (run:∀ {pins:List (Addr × Obj)}{s:Shared}{σ:St}{H:Hp}{Q:VK}{f d c:Addr}{pm ctv:Value}{v vy:V}{u:Value},Inv X pins σ H s→H f=some (.frz (PySem.W.kla_obj "<lambda>" qual params lb sc [(y,d)] pm c ctv) (.own f))→CodeH H c qual→CellH H d vy→RelV v u →
   (tb pins f c s d (del H d) [some v,some vy] (del H d) fun r H2=>H2 d=none→∀ oc,H d=some (czO oc d)→Q r (upd H2 d (czO oc d)))→wpAny (model X.prog X.w) X.A (call (.ref f) [u]) (EP X pins σ Q) X.xe s) :
  PE X (.Call (.Name x p) [e] [] pos) (jet i qual params lb sc y t tb):=by
 skip;intro pins s σ H Q I h
 obtain⟨f,d,vy,hf,hL,q⟩:=h
 have fnat:∀ {H1:Hp}{s1:Shared}{ps:List (Addr × Obj)},Inv X ps σ H1 s1→LamHC H1 f qual params lb sc y d→PySem.W.FnAt f s1.heap:=fun J ⟨c',pm,ctv,h1,_⟩=>by
  obtain⟨e1,_⟩:=(show ObjOk X.prog X.w _ _ f (.frz _ (.own f)) from J.hok f _ h1)
  exact⟨_,_,_,_,e1⟩
 refine wpAny_Call_Name_kw (Q:=EP X pins σ Q) ?_
 refine thn (jhp (pos:=p) hN hv hd hcd pins s σ H (fun v H1=>v=.ref f∧H1=H) I ⟨_,hf,rfl,rfl⟩) fun u s0 ⟨v,H0,I0,r0,ev,eH⟩=>?_
 subst ev eH
 cases r0
 refine PySem.W.callWith_F (fnat I0 hL) (thn (ha pos pins s0 σ _ _ I0 q) fun us s1 ⟨vs,H1,I1,r1,v,ev,hL1,hC1,q1⟩=>⟨fnat I1 hL1,?_⟩) he (by rfl)
 subst ev
 obtain⟨u,rfl,ru⟩:=j5c r1
 obtain⟨c',pm,ctv,h1,hc⟩:=id hL1
 exact run I1 h1 hc hC1 ru (q1 pins c' s1)
theorem jbc (hN:X.N[i]?=some x) (hv:Vis X.env.scope x) (hr:Room (k+1) X.A) (ha:PA X [e] t) (O:LamC1 sc z y) (hbind:∀ d pm cd ct u,bindArgs (PySem.W.kla_fn "<lambda>" qual params lb sc [(y,d)] pm cd ct) ⟨[u],[]⟩=pure [(z,u)])
  (hb:∀ pins f c' s d Hc,PE (jek X pins [z,y] qual sc [(y,d)] f c' X.A s Hc) lb (tb pins f c' s d Hc)) (hd:(x == ("__debug__":Str))=false:=by decide) (hcd:(x == ("__classdict__":Str))=false:=by decide)
  (he:starEach [e] X.env=[(false,eval e X.env)]:=by rfl):PE X (.Call (.Name x p) [e] [] pos) (jet i qual params lb sc y t tb):=by
 refine jdn hN hv ha hd hcd he fun {pins s σ H Q f d c pm ctv v vy u} I h1 hc hC ru q=>?_
 refine jdm I O.kind O.co O.gen I.ok.frames hr h1 hc hC ru (hbind _ _ _ _ _) (fun Q' E' hq=>?_) (fun z' hz=>?_) O.fre (by simp) (hb pins f c s d (del H d)) q
 ·refine wpAny_newFunctionEnv O.nc (fun y' hy'=>by rw[List.mem_singleton.mp hy'];exact O.par) (fun h₁ hns hsb=>?_) O.kind
  skip;have hk₁:∀ b o,s.heap.get? b=some o→h₁.get? b=some o:=fun b o e=>hsb.extBut b o (Nat.ne_of_lt (Heap.lt_size e)) (Heap.get?_push_of_some _ e)
  refine hq h₁ _ _ hns hk₁ (fun z' e' hz=>?_) (.inl ⟨O.par,by simp⟩)
  rw[List.lookup_cons] at hz
  split at hz
  ·rename_i q;cases hz;exact .inl ⟨by simpa using q,rfl⟩
  ·cases hz
 ·rcases hz with hz | hz
  ·exact absurd rfl (O.nc _ (PySem.mem_of_lookup hz))
  ·exact⟨d,by rw[show z'=y from O.only _ (PySem.mem_of_lookup hz) rfl];simp⟩
end
theorem But.tk {P:Addr}{H H':Hp}{ps:Array Value} (hP:H P=some (.tbl ps)) (e:But P H H'):ExtT H H':=fun b o h n=>e b o (fun z=>by rw[z,hP] at h;cases h;cases n) h
theorem TabR.is {H:Hp}{P:Addr}{pos:Pos}{qual:Str} (h:TabR H P pos qual):∃ ps,H P=some (.tbl ps):=by
 rcases h with h | ⟨c,h,_⟩
 ·exact⟨_,h⟩
 ·exact⟨_,h⟩
theorem TabR.keep {H H':Hp}{P R:Addr}{pos:Pos}{qual:Str}{ps:Array Value} (hR:H R=some (.tbl ps)) (n:P≠R) (e:But R H H') (h:TabR H P pos qual):TabR H' P pos qual:=by
 rcases h with h | ⟨c,h,k⟩
 ·exact .inl (e _ _ n h)
 ·exact .inr ⟨c,e _ _ n h,k.mono (But.tk hR e)⟩
theorem But.new {p x:Addr}{H H1 H2 H3:Hp} (a:But p H H1) (n:H1 x=none) (e:Ext H1 H2) (b:But x H2 H3):But p H H3:=fun y o ny h=>b y o (fun z=>by have:=a y o ny h;rw[z,n] at this;cases this) (e y o (a y o ny h))
section
variable {X:Cx}{pins:List (Addr × Obj)}{σ:St}{H:Hp}{s:Shared}
theorem jbd {A:Around}{E:Value→Shared→Prop}{P c:Addr}{params:Arguments}{body:Expr}{scope:Scope}{pos:Pos}{clos:List (Str × Addr)}{Q:Value→Shared→Prop} (I:Inv X pins σ H s) (hcd:X.env.code=.ref c) (hC:PySem.W.codeHdIn X.K c P=true)
  (hT:TabR H P pos (X.env.qual++"<lambda>")) (hdef:defaultsOf params X.env=([],[])) (hcl:closureFor scope X.env=pure clos)
  (h:∀ (c':Addr) (pm ctv:Value) (H':Hp) (h2:Heap) (tk:Nat),Inv X pins σ H' { s with heap:=h2,toks:=tk }→CodeH H' c' (X.env.qual++"<lambda>")→TabR H' P pos (X.env.qual++"<lambda>")→But P H H'→Q (.ref h2.objs.size) { s with heap:=h2.push (PySem.W.kla_obj "<lambda>" (X.env.qual++"<lambda>") params body scope clos pm c' ctv),toks:=tk }) :
  wpAny (model X.prog X.w) A (eval (.Lambda params body scope pos) X.env) Q E s:=by
 have hg:=I.mod.glob.keeps I.bk
 have C:=PySem.W.codeHd_of_K I.kIn hC
 have tab:∀ {ps:Array Value},H P=some (.tbl ps)→s.heap.get? P=some (PySem.W.tabObj ps):=fun e=>(show ObjOk X.prog X.w H s.heap P (.tbl _) from I.hok P _ e)
 obtain⟨ps0,hP0⟩:∃ ps,s.heap.get? P=some (PySem.W.tabObj ps):=by
  rcases hT with hT | ⟨c',hT,_⟩
  ·exact⟨_,tab hT⟩
  ·exact⟨_,tab hT⟩
 have gnP:mainGlobals≠P:=fun q=>by
  obtain⟨o,es,ep,e,hd,_⟩:=hg
  rw[q,hP0] at e;cases e;cases hd
 obtain⟨bm,ob,b1,b2,b3,b4,b5,b6⟩:=I.mod.bmain
 have b3':=I.bk _ _ b3
 have hbP:bm≠P:=fun q=>by rw[q,hP0] at b3';cases b3';cases b4
 have bnG:bm≠mainGlobals:=fun q=>by
  obtain⟨o,es,ep,e,hd,_⟩:=hg
  rw[q,e] at b3';cases b3';rw[hd] at b6;cases b6
 refine PySem.W.kla_eval hdef ?_
 rcases hT with hT | ⟨c',hT,hcc⟩
 ·refine PySem.W.kla_makeFunction hcl I.ok.glob hg hcd C (tab hT) trivial rfl gnP ⟨bm,ob,b1,b2,bnG,hbP,b3',b4,b5,b6⟩ fun c' ctv h' tk hx hge hlt hrec htb=>?_
  obtain⟨c2,oc,vs,t,e2,hoc,hd,hv⟩:=hrec
  cases e2
  have J:=j85 (t':=tk) I hT hx hge hoc htb
  have nc:H c'=none:=I.hok.fresh hge
  have hcc:CodeH (upd (upd H P (.tbl (#[]++#[rawInt pos.line,rawInt pos.col,.ref c']))) c' (.frz oc (.own c'))) c' (X.env.qual++"<lambda>"):=⟨oc,vs,t,j07,hd,hv⟩
  refine h c' _ ctv _ h' tk J hcc (.inr ⟨c',?_,hcc⟩) fun b o n e=>?_
  ·rw[j08 (j05 hT nc),j07]
   rfl
  ·rw[j08 (j05 e nc),j08 n]
   exact e
 ·refine PySem.W.kla_makeFunctionHit hcl I.ok.glob hg hcd C (tab hT) trivial (cv:=.ref c') (codeAmong_snoc [] trivial rfl) ⟨bm,ob,b1,b2,bnG,hbP,b3',b4,b5,b6⟩ fun ctv h' tk hk hsz=>?_
  have J:Inv X pins σ H { s with heap:=h',toks:=tk }:=I.kept hk
  exact h c' _ ctv H h' tk J hcc (.inr ⟨c',hT,hcc⟩) (fun b o _ h=>h)
end
section
variable {X:Cx}{pins:List (Addr × Obj)}{σ:St}{H:Hp}{s:Shared}
theorem jdo {A:Around}{E:Value→Shared→Prop}{P c:Addr}{params:Arguments}{body:Expr}{scope:Scope}{pos:Pos}{clos:List (Str × Addr)}{Q:Value→Shared→Prop} (I:Inv X pins σ H s) (hcd:X.env.code=.ref c) (hC:PySem.W.codeHdIn X.K c P=true)
  (hT:TabR H P pos (X.env.qual++"<lambda>")) (hdef:defaultsOf params X.env=([],[])) (hcl:closureFor scope X.env=pure clos)
  (h:∀ (f c':Addr) (pm ctv:Value) (H':Hp) (s':Shared),Inv X (pins++[(f,PySem.W.kla_obj "<lambda>" (X.env.qual++"<lambda>") params body scope clos pm c' ctv)]) σ H' s'→CodeH H' c' (X.env.qual++"<lambda>")→TabR H' P pos (X.env.qual++"<lambda>")→But P H H'→Q (.ref f) s') :
  wpAny (model X.prog X.w) A (eval (.Lambda params body scope pos) X.env) Q E s:=by
 have hg:=I.mod.glob.keeps I.bk
 have C:=PySem.W.codeHd_of_K I.kIn hC
 have tab:∀ {ps:Array Value},H P=some (.tbl ps)→s.heap.get? P=some (PySem.W.tabObj ps):=fun e=>(show ObjOk X.prog X.w H s.heap P (.tbl _) from I.hok P _ e)
 obtain⟨ps0,hP0⟩:∃ ps,s.heap.get? P=some (PySem.W.tabObj ps):=by
  rcases hT with hT | ⟨c',hT,_⟩
  ·exact⟨_,tab hT⟩
  ·exact⟨_,tab hT⟩
 have gnP:mainGlobals≠P:=fun q=>by
  obtain⟨o,es,ep,e,hd,_⟩:=hg
  rw[q,hP0] at e;cases e;cases hd
 obtain⟨bm,ob,b1,b2,b3,b4,b5,b6⟩:=I.mod.bmain
 have b3':=I.bk _ _ b3
 have hbP:bm≠P:=fun q=>by rw[q,hP0] at b3';cases b3';cases b4
 have bnG:bm≠mainGlobals:=fun q=>by
  obtain⟨o,es,ep,e,hd,_⟩:=hg
  rw[q,e] at b3';cases b3';rw[hd] at b6;cases b6
 have pinned:∀ {H':Hp}{h2:Heap}{o:Obj}{tk:Nat},Inv X pins σ H' { s with heap:=h2,toks:=tk }→(∀ v,o.data≠.cell v)→o.isFreed=false →
   Inv X (pins++[(h2.objs.size,o)]) σ H' { s with heap:=h2.push o,toks:=tk }:=fun {H' h2 o tk} J hd hfr=>by
  have J2:Inv X pins σ H' { s with heap:=h2.push o,toks:=tk }:=J.kept fun b u e=>Heap.get?_push_of_some _ e
  refine J2.pins_of fun p hp=>?_
  skip;rcases List.mem_append.mp hp with z | z
  ·exact J2.pin p (List.mem_append_right _ z)
  ·rw[List.mem_singleton.mp z]
   exact⟨Heap.get?_push_size _ hfr,J.hok.fresh (Nat.le_refl _),Nat.ne_of_gt J.lt,J.nofs (Nat.le_refl _),hd⟩
 refine PySem.W.kla_eval hdef ?_
 rcases hT with hT | ⟨c',hT,hcc⟩
 ·refine PySem.W.kla_makeFunction hcl I.ok.glob hg hcd C (tab hT) trivial rfl gnP ⟨bm,ob,b1,b2,bnG,hbP,b3',b4,b5,b6⟩ fun c' ctv h' tk hx hge hlt hrec htb=>?_
  obtain⟨c2,oc,vs,t,e2,hoc,hd,hv⟩:=hrec
  cases e2
  have J:=j85 (t':=tk) I hT hx hge hoc htb
  have nc:H c'=none:=I.hok.fresh hge
  have hcc:CodeH (upd (upd H P (.tbl (#[]++#[rawInt pos.line,rawInt pos.col,.ref c']))) c' (.frz oc (.own c'))) c' (X.env.qual++"<lambda>"):=⟨oc,vs,t,j07,hd,hv⟩
  refine h _ c' _ ctv _ _ (pinned J (fun v z=>by cases z) rfl) hcc (.inr ⟨c',?_,hcc⟩) fun b o n e=>?_
  ·rw[j08 (j05 hT nc),j07]
   rfl
  ·rw[j08 (j05 e nc),j08 n]
   exact e
 ·refine PySem.W.kla_makeFunctionHit hcl I.ok.glob hg hcd C (tab hT) trivial (cv:=.ref c') (codeAmong_snoc [] trivial rfl) ⟨bm,ob,b1,b2,bnG,hbP,b3',b4,b5,b6⟩ fun ctv h' tk hk hsz=>?_
  have J:Inv X pins σ H { s with heap:=h',toks:=tk }:=I.kept hk
  exact h _ c' _ ctv H _ (pinned J (fun v z=>by cases z) rfl) hcc (.inr ⟨c',hT,hcc⟩) fun b o _ h=>h
end
def jk6 (κ:Type) (KR:(Nat→κ)→Hp→V→Nat→Prop) (lt:(Nat→κ)→Nat→Nat→Bool) (P:Addr) (lp:Pos) (qual:Str) (t:TA) (js:List Nat) (tb:LA TE):TE:=fun σ H Q=>t σ H fun vs H1 =>
 ∃ (l:Addr) (xs:List V) (tp:Bool) (kf:Nat→κ),vs=[.ref l]∧H1 l=some (srcO tp xs)∧0 < xs.length∧TabR H1 P lp qual ∧
  (∀ i x,xs[i]?=some x→∀ pins f c s Hc H2,ExtT H1 H2→tb pins f c s Hc (lSt x js σ) H2 fun kv H3=>KR kf H3 kv i∧Ext H2 H3) ∧
  ∀ x H2,xs[j1j (lt kf) (xs.length-1)]?=some x→ExtT H1 H2→But P H1 H2→TabR H2 P lp qual→Q x H2
section
variable {X:Cx}{κ:Type}{KR:(Nat→κ)→Hp→V→Nat→Prop}{lt:(Nat→κ)→Nat→Nat→Bool}{k:Nat}{c P:Addr}{p pos lp kp:Pos}{e lb:Expr}{t:TA}{params:Arguments}{sc:Scope}{cl:List (Str × Addr)}{x:Str}{fr:List Str}{js:List Nat}{tb:LA TE}
theorem jbe (KY:∀ σ kf,Keyed X X.A.in1 σ (KR kf) (lt kf)) (hr:Room (k+2) X.A) (hg:Gl X "min") (hm:X.mg "min"=none) (ha:PA X [e] t) (hcd:X.env.code=.ref c) (hC:PySem.W.codeHdIn X.K c P=true) (hdef:defaultsOf params X.env=([],[])) (O:LamOk X sc cl x fr js)
  (hbind:∀ pm cd ct u,bindArgs (PySem.W.kla_fn "<lambda>" (X.env.qual++"<lambda>") params lb sc cl pm cd ct) ⟨[u],[]⟩=pure [(x,u)])
  (hb:∀ pins f c' s Hc,PE (jek X pins (x :: fr) (X.env.qual++"<lambda>") sc cl f c' X.A.in1 s Hc) lb (tb pins f c' s Hc))
  (he:starEach [e] X.env=[(false,eval e X.env)]:=by rfl) :
  PE X (.Call (.Name "min" p) [e] [⟨some "key",.Lambda params lb sc lp,kp⟩] pos) (jk6 κ KR lt P lp (X.env.qual++"<lambda>") t js tb):=by
 intro pins s σ H Q I h
 refine wpAny_Call_Name_kw (j1y I hg hm (u:=.builtin "min") rfl ?_ (by decide) (by decide))
 refine callWith_kw (thn (ha pos pins s σ H _ I h) fun us s1 ⟨vs,H1,I1,r1,q1⟩=>?_) (by rw[he];rfl) (by rw[he];rfl)
 obtain⟨l,xs,tp,kf,rfl,hl,hne,hT,hturn,hfin⟩:=q1
 obtain⟨u,rfl,ru⟩:=j5c r1
 cases ru
 refine kws_cons (jdo I1 hcd hC hT hdef (j19 O.clos) fun f c' pm ctv H2 s2 I2 hc2 hT2 b2=>kws_nil ?_)
 obtain⟨ps0,hP0⟩:=hT.is
 have e2:ExtT H1 H2:=But.tk hP0 b2
 show wpAny _ _ (call (.builtin "min") [.ref l] [(Str.ofString "key",.ref f)]) _ _ _
 refine mk_min (G:=fun H=>H l=some (srcO tp xs)∧(ExtT H1 H∧But P H1 H)∧TabR H P lp (X.env.qual++"<lambda>")∧CodeH H c' (X.env.qual++"<lambda>")) (tp:=tp) (xs:=xs) (KR:=KR kf) (lt:=lt kf) hr.hd I2 ⟨e2 _ _ hl (jgm _ _),⟨e2,b2⟩,hT2,hc2⟩ (KY σ kf)
  ⟨fun e ⟨g1,g2,g3,g4⟩=>⟨e _ _ g1,⟨g2.1.tr (Ext.toT e),fun b o n h=>e _ _ (g2.2 b o n h)⟩,g3.ext e,g4.mono (Ext.toT e)⟩,fun⟨g1,_⟩=>jjp g1,fun {ps H3 s3 i y v E} hps I3 ⟨g1,g2,g3,g4⟩ hy rv=>?_⟩ hne fun {H3 s3 y v} hy rv I3 ⟨g1,g2,g3,g4⟩=>?_
 ·exact jgl I3 O I3.ok.frames hr.in1 (hps _ (List.mem_append_right _ (.head _))) g4 rv (hbind _ _ _ _) (hb ps f c' s3 H3) (hturn i y hy ps f c' s3 H3 H3 g2.1)
 ·exact⟨y,H3,I3.pins_of (fun p hp=>I3.pin p (List.mem_append_right _ (List.mem_append_left _ hp))),rv,hfin y H3 hy g2.1 g2.2 g3⟩
end
def tLamCB (P:Addr) (lp:Pos) (qual:Str) (params:Arguments) (lb:Expr) (sc:Scope) (y:Str) (d:Addr):TE:=fun _ H Q=>TabR H P lp qual∧∀ f H',LamHC H' f qual params lb sc y d→TabR H' P lp qual→ExtT H H'→But P H H'→Q (.ref f) H'
section
variable {X:Cx}{c P d:Addr}{lp:Pos}{lb:Expr}{params:Arguments}{sc:Scope}{y:Str}
theorem jgx (hcd:X.env.code=.ref c) (hC:PySem.W.codeHdIn X.K c P=true) (hdef:defaultsOf params X.env=([],[])) (hcl:j2f X.env.cells sc.names []=some [(y,d)]):PE X (.Lambda params lb sc lp) (tLamCB P lp (X.env.qual++"<lambda>") params lb sc y d):=by
 skip;intro pins s σ H Q I h
 obtain⟨hT,q⟩:=h
 refine jbd I hcd hC hT hdef (j19 hcl) fun c' pm ctv H' h2 tk J hc hT2 b2=>?_
 obtain⟨ps0,hP0⟩:=hT.is
 have e2:ExtT H H':=But.tk hP0 b2
 have nf:H' h2.objs.size=none:=J.hok.fresh (Nat.le_refl _)
 have at1:(h2.push (PySem.W.kla_obj "<lambda>" (X.env.qual++"<lambda>") params lb sc [(y,d)] pm c' ctv)).get? h2.objs.size=some (PySem.W.kla_obj "<lambda>" (X.env.qual++"<lambda>") params lb sc [(y,d)] pm c' ctv):=Heap.get?_push_size _ rfl
 have J2:Inv X pins σ (upd H' h2.objs.size (.frz (PySem.W.kla_obj "<lambda>" (X.env.qual++"<lambda>") params lb sc [(y,d)] pm c' ctv) (.own h2.objs.size))) { s with heap:=h2.push (PySem.W.kla_obj "<lambda>" (X.env.qual++"<lambda>") params lb sc [(y,d)] pm c' ctv),toks:=tk } :=
  J.laid (fun b u z=>Heap.get?_push_of_some _ z) (Nat.le_refl _) ⟨at1,_,at1⟩
 have e3:Ext H' (upd H' h2.objs.size (.frz (PySem.W.kla_obj "<lambda>" (X.env.qual++"<lambda>") params lb sc [(y,d)] pm c' ctv) (.own h2.objs.size))):=j0j nf
 exact⟨.ref h2.objs.size,_,J2,rfl,q _ _ ⟨c',pm,ctv,j07,hc.mono (Ext.toT e3)⟩ (hT2.ext e3) (e2.ext e3) (fun b o n h=>e3 _ _ (b2 b o n h))⟩
end
section
variable {prog:Program}{w:World}{A:Around}{E:Value→Shared→Prop}{s:Shared}{Z:Addr→List Str→Prop}
theorem jbf {acc:List Value}{M1:List (List Str)}{p:Array Nat} (l1:acc.length=M1.length) (ok:OkP acc.length p):(p.toList.map fun i=>M1.getD i []).Perm M1:=by
 refine (ok.map _).trans ?_
 have:(List.range acc.length).map (fun i=>M1.getD i [])=M1:=by
  rw[l1]
  refine List.ext_getElem? fun i=>?_
  by_cases hi:i < M1.length
  ·simp[hi]
  ·simp[hi]
 rw[this]
theorem jbg {d:Addr}{o:Obj}{es:Array DictEntry}{ep:Nat}{Ls:List (List Str)}{Q:Value→Shared→Prop} (hh:A.handled=none) (lo:(d == sysModules)=false) (hS:s.heap.get? d=some o) (hc:o.ExactDict) (hd:o.data=.dict es ep) (h64:es.size < 64) (hne:∀ L∈Ls,L≠[]) (hr:RowsVT prog w Z s.heap (es.toList.map (·.key)) Ls)
  (h:∀ (s':Shared) (h':Heap) (a:Addr) (out:List Value) (e:Nat) (Ks:List (List Str)),(∀ b o,s.heap.get? b=some o→h'.get? b=some o)→s.heap.objs.size≤a→h'.get? a=some (seqObj "list" out.toArray e)→RowsVT prog w Z s.heap out Ks→Ks.Perm Ls→Ks.Pairwise (fun a b=>¬ cpm b < cpm a)→Q (.ref a) { s with heap:=h',toks:=s'.toks }):wpAny (model prog w) A (call (.builtin "sorted") [.ref d]) Q E s:=by
 have hz:es.size≤sizeLine:=by rw[sizeLine_eq];omega
 refine Calls.call_function_entry kind_sorted plain_sorted entry_sorted (args_sorted1 _) ?_;unfold Builtin.«sorted»
 refine wpAny_bind (m:=checkCount "sorted" 1 1 _) (wpAny_pure (wpAny_bind (jba hh lo hS hc hd hz fun s' acc hm le ha=>?_)))
 have rv:RowsVT prog w Z s.heap acc.toList Ls:=by rw[jes ha];exact hr
 have l1:=rv.length
 have l2:acc.toList.length=es.size:=by rw[jes ha,List.length_map,Array.length_toList]
 skip;refine wpAny_bind (wpAny_newList ?_ (by rw[sizeLine_eq];omega))
 have o1:(s'.heap.push (seqObj "list" acc.toList.toArray 0)).get? s'.heap.objs.size=some (seqObj "list" acc.toList.toArray 0):=Heap.get?_push_size _ rfl
 have kt:∀ b o,o.cls=.type "tuple"→s.heap.get? b=some o→(s'.heap.push (seqObj "list" acc.toList.toArray 0)).get? b=some o:=fun b o c e=>Heap.get?_push_of_some _ (hm.heap b o (by simp) e)
 refine wpAny_bind (wpAny_holding (wpAny_call_entry slot_list_sort ⟨_,o1,rfl⟩ entry_list_sort (j5w (s:={ s' with heap:=s'.heap.push (seqObj "list" acc.toList.toArray 0) }) o1 (by omega) ((rv.kept kt).at hne) fun p ok as=>⟨_,rfl,wpAny_pure ⟨_,rfl,?_⟩⟩) (args_list_sort _)))
 obtain⟨h',g',d',t',q'⟩:=s'
 skip;have eg:g'=s.gens:=hm.gens
 skip;have ed:d'=s.drawn:=hm.drawn
 have eo:q'=s.os:=hm.os
 subst eg ed eo
 obtain⟨e,he⟩:=sortedHeap_at (out:=(p.toList.map fun i=>acc.toList.getD i .none).toArray) o1
 refine h ⟨h',s.gens,s.drawn,t',s.os⟩ _ _ _ e _ (fun b o eb=>?_) (Nat.le_of_lt le) he (rv.pick p.toList fun i hi=>List.mem_range.mp (ok.mem_iff.mp hi)) (jbf l1 ok) (j86 ok as)
 have hb:=hm.heap b o (by simp) eb
 have lb:=Heap.lt_size hb
 refine (sortedHeap_old (Nat.ne_of_lt lb) ?_).trans (Heap.get?_push_of_some _ hb)
 rw[Heap.size_push]
 exact Nat.lt_succ_of_lt lb
end
section
variable {X:Cx}
theorem jk7 {pins:List (Addr × Obj)}{σ:St}{H:Hp}{s:Shared}{b:Addr}{L:List Str} (I:Inv X pins σ H s) (hb:H b=some (.tup (L.map V.str))):IsTupleKey (PySem.strKind X.prog X.w) s.heap L b:=by
 obtain⟨it2,r2,t2,_⟩:=I.tuple (SqT.of (K:=X.K) hb)
 obtain⟨o,ho,hcl,n,hd⟩:=t2
 exact⟨o,_,n,ho,hcl,hd,by simpa using j3e (jb5 r2)⟩
def jeu:List V→Hp→VK→Prop:=fun xs H Q=>∃ (p:Addr) (o:Obj) (kvs:List (List Key × V)) (Ls:List (List Str)),xs=[.ref p]∧H p=some (.frz o (.dT kvs))∧kvs.map (·.1)=Ls.map (·.map Sum.inr)∧kvs.length < 64∧(∀ L∈Ls,L≠[])∧∀ l vs' Ks,H l=none→RefsHT H vs' Ks→Ks.Perm Ls→Ks.Pairwise (fun a b=>¬ cpm b < cpm a)→Q (.ref l) (upd H l (.lst vs'))
theorem j3u (L:List Str):(L.map (Sum.inr:Str→Key)).map kV=L.map V.str:=by rw[List.map_map];rfl
theorem j5z {prog:Program}{w:World}{Z:Addr→List Str→Prop}{h:Heap}:∀ {vs:List Value}{Ls:List (List Str)},vs.length=Ls.length→(∀ (i:Nat) (L:List Str),Ls[i]?=some L→∃ b,vs[i]?=some (.ref b)∧IsTupleKey (PySem.strKind prog w) h L b∧Z b L)→RowsVT prog w Z h vs Ls
 | [],[],_,_=>.nil
 | [],_ :: _,hlen,_=>by simp at hlen
 | _ :: _,[],hlen,_=>by simp at hlen
 | v :: vs,L :: Ls,hlen,h=>by
  obtain⟨b,e,k,z⟩:=h 0 L rfl
  simp at e
  subst e
  exact .cons k z (j5z (by simpa using hlen) fun i L hL=>by simpa using h (i+1) L (by simpa using hL))
theorem jk8 (hc:X.calm=true):CallR X (.builtin "sorted") jeu:=by
 skip;intro pins s σ H xs us Q I r h
 obtain⟨p,o,kvs,Ls,rfl,hp,hk,h64,hne,q⟩:=h
 obtain⟨u,rfl,ru⟩:=j5c r
 cases ru
 obtain⟨g1,g2,g3,es,ep,g4,g5,g6⟩:=fz_t I.hok hp
 have hl:kvs.length=Ls.length:=by have:=congrArg List.length hk;simpa using this
 have le0:=Array.length_toList (xs:=es)
 have rv:RowsVT X.prog X.w (fun a L=>H a=some (.tup (L.map V.str))) s.heap (es.toList.map (·.key)) Ls:=j5z (by rw[List.length_map];omega) fun i L hL=>by
  have hi:i < Ls.length:=(List.getElem?_eq_some_iff.mp hL).1
  have hi2:i < es.size:=by omega
  obtain⟨kv,b,k1,k2,k3⟩:=g6 i hi2
  have e:(kvs.map (·.1))[i]?=some (L.map Sum.inr):=by rw[hk,List.getElem?_map,hL];rfl
  rw[List.getElem?_map,k1] at e
  have e':kv.1=L.map Sum.inr:=Option.some.inj e
  rw[e',j3u] at k3
  exact⟨b,by rw[List.getElem?_map,Array.getElem?_toList,Array.getElem?_eq_getElem hi2,Option.map_some,k2],jk7 I k3,k3⟩
 refine jbg (I.ok.hd hc) g3 g1 g2 g4 (by omega) hne rv fun s' h' l out ex Ks kk le ho rv' hp' hw=>?_
 obtain⟨vs',v1,v2⟩:=j87 rv'
 have lv:=v2.length
 have lk:=hp'.length_eq
 exact⟨.ref l,upd H l (.lst vs'),I.laid (t':=s'.toks) kk le (show ObjOk X.prog X.w _ _ _ (.lst vs') from⟨by rw[sizeLine_eq];omega,out,ex,v1,ho⟩),rfl,q l vs' Ks (I.hok.fresh le) v2 hp' hw⟩
end
section
variable {K:PySem.W.Frag}{H:Hp}{Q:VK}{p:Addr}
theorem jgy {o:Obj}{kvs:List (List Key × V)}{Ls:List (List Str)} (h:H p=some (.frz o (.dT kvs))) (hk:kvs.map (·.1)=Ls.map (·.map Sum.inr)) (hn:kvs.length < 64) (hne:∀ L∈Ls,L≠[]) (q:∀ l vs' Ks H',H l=none→H' l=some (.lst vs')→RefsHT H' vs' Ks→Ks.Perm Ls→Ks.Pairwise (fun a b=>¬ cpm b < cpm a)→Ext H H'→Q (.ref l) H'):jeu [.ref p] H Q:=⟨p,o,kvs,Ls,rfl,h,hk,hn,hne,fun l vs' Ks nl r pm pw=>q l vs' Ks _ nl j07 (r.mono (j0j nl)) pm pw (j0j nl)⟩
end
section
variable {prog:Program}{w:World}{A:Around}{E:Value→Shared→Prop}{s:Shared}{K:Type} [DecidableEq K] {knd:HeapKind prog w K}
theorem jgz {pairs:List (Sem Value × Sem Value)}{Q:Addr→Shared→Prop} (hu:knd.room A) (hlen:pairs.length≤15)
  (h:wpAny (model prog w) A (evalPairs pairs) (fun vs s₁=>∃ (b:Addr) (v:Value) (ks:K),vs=[(.ref b,v)]∧knd.is s₁.heap ks b∧s₁.heap.DictOfH knd s.heap.objs.size [] ∧
   ∀ h' tk,h'.DictOfH knd s.heap.objs.size [(ks,b,v)]→Heap.SameBut s.heap.objs.size s₁.heap h'→Q s.heap.objs.size { s₁ with heap:=h',toks:=tk }) E { s with heap:=s.heap.push { cls:=.type "dict",data:=.dict #[] } }):wpAny (model prog w) A (subDict pairs) Q E s:=by
 unfold subDict
 refine wpAny_bind (wpAny_alloc (wpAny_bind (wpAny_holding ?_)))
 rw[if_pos hlen]
 skip;refine wpAny_bind (wpAny_mono h (fun vs s₁ h₁=>?_) fun _ _ e=>e)
 obtain⟨b,v,ks,rfl,hk,hm,hQ⟩:=h₁
 skip;refine wpAny_holding (wpAny_bind ?_)
 rw[List.forIn_cons]
 refine wpAny_bind (wpAny_bind (wpAny_dictSet_heap hu hk hm (fun h' hm' hs'=>wpAny_pure ?_) (by simp)))
 dsimp only;rw[List.forIn_nil]
 exact wpAny_pure (wpAny_pure (wpAny_pure (hQ h' _ hm' hs')))
end
def jh0 (p:Addr) (ps:List (V × V)) (H:Hp) (Q:VK):Prop:=∃ x y,ps=[(x,y)]∧H p=some (.dT [])∧∃ b ks,x=.ref b∧H b=some (.tup (ks.map kV))∧Q (.ref p) (upd H p (.dT [(ks,y)]))
def jk9 (tk tv:TE):TE:=fun σ H Q=>∀ p,H p=none→jfi [(tk,tv)] σ (upd H p (.dT [])) fun ps H2=>jh0 p ps H2 Q
theorem jh1 {X:Cx}{pos:Pos}{k v:Expr}{tk tv:TE}{j:Nat} (hr:Room j X.A) (hk:PE X k tk) (hv:PE X v tv):PE X (.Dict [some k] [v] pos) (jk9 tk tv):=by
 skip;intro pins s σ H Q I q
 have hn:=I.hok.fresh (Nat.le_refl s.heap.objs.size)
 have I1:=I.laid (a:=s.heap.objs.size) (o:=.dT []) (h':=s.heap.push { cls:=.type "dict",data:=.dict #[] }) (t':=s.toks) (fun _ _ q=>Heap.get?_push_of_some _ q) (Nat.le_refl _) (ja3 s.heap I.big)
 have hp:PPs X pos [some k] [v] [(tk,tv)]:=jfj hk hv jib
 have un:=hr.un
 have ln:(pairTrees [some k] [v] X.env pos).length=1:=pairTrees_length [some k] [v] X.env pos rfl rfl
 rw[arm_eval_Dict,zip_pairTrees [some k] [v] X.env pos rfl rfl,dictDisplay_pairs _ (fun z=>by rw[z] at ln;cases ln) (by rw[ln];decide)]
 refine wpAny_bind (wpAny_standAt (wpAny_bind (jgz (knd:=tupleKind (j11 X.prog X.w)) (show X.A.units < cLine by omega) (by rw[ln];decide) (thn (hp pins _ σ _ _ I1 (q _ hn)) fun ws s2 ⟨ps,H2,I2,rel,x,y,ep,e,b,ks,ex,hb,q2⟩=>?_))))
 ·subst ep ex
  cases rel with
  | @cons _ w1 _ _ h1 h2 =>
   cases h2
   obtain⟨u1,u2⟩:=w1
   cases (show u1=Value.ref b from h1.1)
   obtain⟨z,hd,xs,relx,dd⟩:=jmi I2.hok e
   cases relx
   refine⟨b,u2,ks,rfl,ja1 I2.hok hb,dd,fun h' tk' dd' hs=>wpAny_pure ⟨.ref s.heap.objs.size,_,?_,rfl,q2⟩⟩
   obtain⟨qo,es,ep,hq,h2,h3,h4,_,h5⟩:=dd'
   have nb:b≠s.heap.objs.size:=j58 hb e (fun z=>nomatch z)
   exact ja2 I2 (by rw[e];exact True.intro) hs ⟨qo,hq⟩ ⟨by show 1≤sizeLine;rw[sizeLine_eq];decide,hd,[(ks,b,u2)],.cons ⟨rfl,by rw[j08 nb];exact hb,h1.2⟩ .nil,qo,es,ep,hq,h2,h3,h4,h5⟩
section
variable {K:PySem.W.Frag}{σ:St}{H:Hp}{Q:VK}{p b:Addr}
theorem jka {tk tv:TE} (q:∀ p H',H p=none→H' p=some (.dT [])→Ext H H'→tk σ H' fun x H2=>tv σ H2 fun v H3=>jh0 p [(x,v)] H3 Q):jk9 tk tv σ H Q:=fun p n=>q p _ n j07 (j0j n)
theorem jh2 {v:V}{ks:List Key} (h:H p=some (.dT [])) (hb:H b=some (.tup (ks.map kV))) (q:∀ H',H' p=some (.dT [(ks,v)])→But p H H'→Q (.ref p) H'):jh0 p [(.ref b,v)] H Q:=⟨_,_,rfl,h,b,ks,rfl,hb,q _ j07 j44⟩
theorem jkb (q:∀ p H',H p=none→H' p=some (.dT [])→Ext H H'→Q (.ref p) H'):jia σ H Q:=fun p n=>q p _ n j07 (j0j n)
end
section
variable {prog:Program}{w:World}{A:Around}{E:Value→Shared→Prop}{s:Shared}
theorem jbh {d:Addr} (hd:(d == sysModules)=false):MeetsIn prog w (Builtin.«dict.__len__» ⟨[.ref d],[]⟩) (fun _ R s=>∃ o es ep,s.heap.get? d=some o∧o.data=.dict es ep∧R (.ok (.ret (.int es.size s.toks))) { s with toks:=s.toks+1 }) :=
 .of_wp fun A R s ⟨o,es,ep,ho,hdat,h⟩=>by
  skip;show wpAny _ _ (dictSize d >>= _) _ _ s;unfold dictSize
  refine wpAny_bind (wpAny_bind (wpAny_dictEntries ho hdat (wpAny_pure ?_)));show wpAny _ _ (Builtin.Dict.pendingCount d >>= _) _ _ s
  refine wpAny_bind (wpAny_pendingCount_other hd (wpAny_ret_mkInt ?_))
  rw[Nat.add_zero]
  exact h
theorem jdp {d:Addr}{o:Obj}{es:Array DictEntry}{ep:Nat}{Q:Value→Shared→Prop} (hd:(d == sysModules)=false) (ho:s.heap.get? d=some o) (hc:o.ExactDict) (hdat:o.data=.dict es ep) (hfit:(es.size:Int) < 2 ^ 63)
  (h:∀ t tk,Q (.int es.size t) { s with toks:=tk }):wpAny (model prog w) A (call (.builtin "len") [.ref d]) Q E s:=by
 refine Calls.call_function_entry kind_len plain_len entry_len (args_len1 _) ?_;unfold Builtin.«len»
 refine wpAny_bind (m:=oneArg "len" _) (wpAny_pure (wpAny_bind (m:=callSpecial? (.ref d) (Str.ofString "__len__")) (wpAny_callSpecial?_slot (name:=Str.ofString "__len__") (jb6 ho hc) PySem.F.slot_dict_len (call_meetsIn PySem.F.slot_dict_len (jb6 ho hc) PySem.F.entry_dict_len (PySem.F.args_dict_len_1 _) (jbh hd) ⟨o,es,ep,ho,hdat,?_⟩))))
 show wpAny _ _ _ _ _ { s with toks:=s.toks+1 };refine wpAny_bind (wpAny_holding (wpAny_pure (wpAny_bind (wpAny_letGo ?_))))
 show wpAny _ _ (if ((es.size:Nat):Int) < 0 then _ else _) _ _ _;rw[if_neg (by omega)]
 show wpAny _ _ (if ((es.size:Nat):Int)≥2 ^ 63 then _ else _) _ _ _;rw[if_neg (by omega)]
 exact wpAny_bind (wpAny_mkInt (wpAny_pure ⟨_,rfl,h _ _⟩))
end
def rLenT:List V→Hp→VK→Prop:=fun xs H Q=>∃ a kvs,xs=[V.ref a]∧H a=some (.dT kvs)∧Q (.int kvs.length) H
section
variable {X:Cx}
theorem cLenT:CallR X (.builtin "len") rLenT:=by
 skip;intro pins s σ H xs us Q I r h
 obtain⟨a,kvs,rfl,ha,q⟩:=h
 obtain⟨u,rfl,ru⟩:=j5c r
 cases ru
 obtain⟨z,hd,xs',rel,o,es,ep,g,c,dt,en,_⟩:=jmi I.hok ha
 have l1:es.size=xs'.length:=size_of_entries en
 have l2:kvs.length=xs'.length:=Paired.length rel
 rw[sizeLine_eq] at z
 refine jdp hd g c dt (by omega) fun t tk=>⟨.int kvs.length,H,I.tok _,⟨t,by rw[l1,← l2]⟩,q⟩
theorem jkc {H:Hp}{Q:VK}{p:Addr}{kvs:List (List Key × V)} (h:H p=some (.dT kvs)) (q:Q (.int kvs.length) H):rLenT [.ref p] H Q:=⟨p,kvs,rfl,h,q⟩
end
end L2
namespace Q
open PySem PySem.Spec PyProof.Rows L2
local macro_rules | `(tactic| walk_at "v") => `(tactic| repeat walk_at "vs")
local macro_rules | `(tactic| walk_at "side")=>`(tactic| first | exact⟨by decide,by decide,by decide⟩ | exact Or.inl ⟨by omega,by omega⟩ | exact Or.inr (Or.inl ⟨by omega,by omega⟩) | exact⟨by omega,by omega⟩ | omega | decide)
local macro_rules | `(tactic| walk_at "hp")=>`(tactic| first | assumption | ((refine up (H:=?kH) ?ke ?kf);(case ke=>assumption);(case kf=>walk_at "hp")))
local macro_rules | `(tactic| walk_at "vs")=>`(tactic| first
 | ((with_reducible refine r_var (v:=?kv) ?kh ?_);(case kh=>exact rfl))
 | with_reducible refine r_op ?_
 | with_reducible refine r_c ?_
 | with_reducible refine r_seq ?_
 | with_reducible refine r_asg ?_
 | with_reducible refine jij ?_
 | with_reducible refine r_if ?_
 | with_reducible refine r_test ?_
 | with_reducible refine r_bl ?_
 | with_reducible refine r_I0 ?_
 | with_reducible refine jj1 ?_
 | with_reducible refine jjb ?_
 | with_reducible refine r_leWI ?_
 | with_reducible refine r_leWS ?_
 | ((with_reducible refine jjc ?kc ?_);(case kc=>walk_at "side"))
 | with_reducible refine r_pow18 ?_
 | with_reducible refine r_pow6 ?_
 | with_reducible refine r_pow9 ?_
 | with_reducible refine r_powM ?_
 | ((with_reducible refine r_I ?kc ?_);(case kc=>walk_at "side"))
 | with_reducible refine r_eqUI ?_
 | with_reducible refine r_neI ?_
 | with_reducible refine r_neUI ?_
 | with_reducible refine r_ret ?_
 | with_reducible refine r_next ?_
 | with_reducible refine r_drop ?_
 | with_reducible refine r_not ?_
 | with_reducible refine jik ?_
 | with_reducible refine r_blT ?_
 | with_reducible refine r_and ?_
 | with_reducible refine r_or ?_
 | with_reducible refine r_andV ?_
 | with_reducible refine r_orV ?_
 | with_reducible refine r_notV ?_
 | with_reducible refine r_ifE ?_
 | with_reducible refine jil ?_
 | with_reducible refine r_un ?_
 | with_reducible refine r_rU ?_
 | with_reducible refine r_call ?_
 | with_reducible refine r_cb ?_
 | with_reducible refine r_cons ?_
 | with_reducible refine r_nil ?_
 | with_reducible refine r_meth ?_
 | ((with_reducible refine r_self (dx:=?kd) (fs:=?kf) ?kh ?kl ?_);(case kh=>walk_at "hp");(case kl=>exact rfl))
 | with_reducible refine jim ?_
 | with_reducible refine jin ?_
 | with_reducible refine r_make ?_
 | with_reducible refine r_fldK ?_
 | ((with_reducible refine r_fat (C:=?kC) (dx:=?kd) (fs:=?kf) (v:=?kv) ?kh ?kc ?kn ?kl ?_);(case kh=>walk_at "hp");(case kc=>assumption);(case kn=>assumption);(case kl=>exact rfl))
 | with_reducible refine r_sfld ?_
 | with_reducible refine r_tup ?_
 | with_reducible refine r_lst ?_
 | ((with_reducible refine r_newT ?kc ?_);(case kc=>exact rfl))
 | ((with_reducible refine r_newL ?kc ?_);(case kc=>exact rfl))
 | with_reducible refine r_dnew ?_
 | with_reducible refine r_retN ?_
 | with_reducible refine r_for ?_
 | with_reducible refine r_rng1 ?_
 | with_reducible refine r_rng2 ?_
 | with_reducible refine r_by2 ?_
 | with_reducible refine r_zip2 ?_
 | with_reducible refine r_enum ?_
 | with_reducible refine r_enum1 ?_
 | with_reducible refine r_comp ?_
 | with_reducible refine j6u ?_
 | with_reducible refine jfv ?_
 | with_reducible refine r_gsub ?_
 | with_reducible refine r_sl ?_
 | with_reducible refine jfu ?_
 | with_reducible refine r_part ?_
 | with_reducible refine jj2 ?_
 | with_reducible refine r_intT ?_
 | with_reducible refine jio ?_
 | with_reducible refine r_itup ?_
 | with_reducible refine r_bm ?_
 | with_reducible refine r_bm0 ?_
 | ((with_reducible refine r_tyl (xs:=?kx) ?kh ?_);(case kh=>walk_at "hp"))
 | with_reducible refine r_tm ?_
 | ((with_reducible refine r_tyT (xs:=?kx) ?kh ?_);(case kh=>walk_at "hp"))
 | with_reducible refine r_sm ?_
 | with_reducible refine r_dget ?_
 | with_reducible refine r_dput ?_
 | with_reducible refine r_tyS ?_
 | with_reducible refine r_istr ?_
 | with_reducible refine r_gnil ?_
 | with_reducible refine jiq ?_
 | ((with_reducible refine jcu (xs:=?kx) ?kh ?kl ?_);(case kh=>walk_at "hp");(case kl=>exact rfl))
 | with_reducible refine r_max ?_
 | with_reducible refine r_min ?_
 | with_reducible refine r_abs ?_
 | with_reducible refine r_intI ?_
 | with_reducible refine r_intB ?_
 | with_reducible refine r_isN ?_
 | with_reducible refine r_notN ?_
 | with_reducible refine r_try ?_
 | with_reducible refine r_gone ?_
 | with_reducible refine r_efldK ?_
 | with_reducible refine r_terr ?_
 | ((with_reducible refine iteTc ?kh ?_);(case kh=>exact rfl))
 | ((with_reducible refine iteFc ?kh ?_);(case kh=>exact rfl)))
def top (i:Nat):Stmt:=PySem.Challenge.pw_lateknow_k75_enemy_of_keeper.main.body.getD i (.Pass ⟨0,0,0,0⟩)
abbrev s_z36:Stmt:=top 39
abbrev s_z22:Stmt:=top 38
abbrev s_z30:Stmt:=top 37
abbrev s_z26:Stmt:=top 36
abbrev s_z27:Stmt:=top 31
abbrev s_z23:Stmt:=top 30
abbrev s_z19:Stmt:=j13 (top 11) 6
abbrev s_z25:Stmt:=top 35
abbrev s_z24:Stmt:=j13 (top 11) 5
abbrev s_z9:Stmt:=j13 (top 21) 4
abbrev s_z0:Stmt:=j13 (top 21) 2
abbrev s_z6:Stmt:=j13 (top 11) 2
abbrev s_z13:Stmt:=j13 (top 20) 3
abbrev s_z5:Stmt:=j13 (top 21) 3
abbrev s_z7:Stmt:=j13 (top 20) 2
abbrev s_z28:Stmt:=top 6
abbrev s_z11:Stmt:=j13 (top 21) 0
abbrev s_z18:Stmt:=j13 (top 11) 0
abbrev s_z3:Stmt:=j13 (top 20) 1
abbrev s_z20:Stmt:=top 7
abbrev s_z17:Stmt:=j13 (top 20) 0
abbrev s_z2:Stmt:=top 8
abbrev s_z21:Stmt:=top 34
abbrev s_z8:Stmt:=top 33
abbrev s_z14:Stmt:=top 32
abbrev s_z1:Stmt:=top 26
abbrev s_z35:Stmt:=top 17
abbrev s_z15:Stmt:=top 16
abbrev s_z33:Stmt:=top 15
abbrev s_z12:Stmt:=j13 (top 20) 4
abbrev s_z10:Stmt:=j13 (top 10) 4
abbrev s_z34:Stmt:=top 19
abbrev s_z4:Stmt:=top 25
abbrev s_z29:Stmt:=top 24
abbrev s_z16:Stmt:=j13 (top 11) 4
abbrev s_z31:Stmt:=top 29
abbrev s_z32:Stmt:=top 28
structure Adr where
 f_z36:Addr
 d_z36:FuncData
 f_z22:Addr
 d_z22:FuncData
 f_z30:Addr
 d_z30:FuncData
 f_z26:Addr
 d_z26:FuncData
 f_z27:Addr
 d_z27:FuncData
 f_z23:Addr
 d_z23:FuncData
 f_z19:Addr
 d_z19:FuncData
 f_z25:Addr
 d_z25:FuncData
 f_z24:Addr
 d_z24:FuncData
 f_z9:Addr
 d_z9:FuncData
 f_z0:Addr
 d_z0:FuncData
 f_z6:Addr
 d_z6:FuncData
 f_z13:Addr
 d_z13:FuncData
 f_z5:Addr
 d_z5:FuncData
 f_z7:Addr
 d_z7:FuncData
 f_z28:Addr
 d_z28:FuncData
 f_z11:Addr
 d_z11:FuncData
 f_z18:Addr
 d_z18:FuncData
 f_z3:Addr
 d_z3:FuncData
 f_z20:Addr
 d_z20:FuncData
 f_z17:Addr
 d_z17:FuncData
 f_z2:Addr
 d_z2:FuncData
 f_z21:Addr
 d_z21:FuncData
 f_z8:Addr
 d_z8:FuncData
 f_z14:Addr
 d_z14:FuncData
 f_z1:Addr
 d_z1:FuncData
 ck_z1:Addr
 tb_z1:Addr
 f_z35:Addr
 d_z35:FuncData
 ck_z35:Addr
 tb_z35:Addr
 f_z15:Addr
 d_z15:FuncData
 f_z33:Addr
 d_z33:FuncData
 f_z12:Addr
 d_z12:FuncData
 f_z10:Addr
 d_z10:FuncData
 f_z34:Addr
 d_z34:FuncData
 f_z4:Addr
 d_z4:FuncData
 f_z29:Addr
 d_z29:FuncData
 f_z16:Addr
 d_z16:FuncData
 f_z31:Addr
 d_z31:FuncData
 f_z32:Addr
 d_z32:FuncData
 c_World:Addr
 c_Rule:Addr
 c_Bound:Addr
 c_Store:Addr
 c_Keeper:Addr
 t_MOST_STATES:Tok
 v_NAMES:Addr
structure Txt (K:PySem.W.Frag) (mg:Str→Option Value) (a:Adr):Prop where
 F_z36:Fun K "law" "law" s_z36 a.f_z36 a.d_z36
 b_z36:Binds K a.d_z36 ["_law_script"] []
 m_z36:mg "law"=some (.ref a.f_z36)
 F_z22:Fun K "_law_twice" "_law_twice" s_z22 a.f_z22 a.d_z22
 b_z22:Binds K a.d_z22 ["_law_k","_law_many"] []
 m_z22:mg "_law_twice"=some (.ref a.f_z22)
 F_z30:Fun K "_law_bad" "_law_bad" s_z30 a.f_z30 a.d_z30
 b_z30:Binds K a.d_z30 ["_law_found","_law_k","_law_many"] []
 m_z30:mg "_law_bad"=some (.ref a.f_z30)
 F_z26:Fun K "_law_plan" "_law_plan" s_z26 a.f_z26 a.d_z26
 b_z26:Binds K a.d_z26 ["_law_start","_law_way"] []
 m_z26:mg "_law_plan"=some (.ref a.f_z26)
 F_z27:Fun K "_law_same" "_law_same" s_z27 a.f_z27 a.d_z27
 b_z27:Binds K a.d_z27 ["_law_found","_law_due"] []
 m_z27:mg "_law_same"=some (.ref a.f_z27)
 F_z23:Fun K "_law_whole" "_law_whole" s_z23 a.f_z23 a.d_z23
 b_z23:Binds K a.d_z23 ["_law_found"] []
 m_z23:mg "_law_whole"=some (.ref a.f_z23)
 F_z19:Fun K "paid" "Rule.paid" s_z19 a.f_z19 a.d_z19
 b_z19:Binds K a.d_z19 ["self"] []
 F_z25:Fun K "_law_paid" "_law_paid" s_z25 a.f_z25 a.d_z25
 b_z25:Binds K a.d_z25 ["_law_start","_law_wishes"] []
 m_z25:mg "_law_paid"=some (.ref a.f_z25)
 F_z24:Fun K "pay" "Rule.pay" s_z24 a.f_z24 a.d_z24
 b_z24:Binds K a.d_z24 ["self","wish"] []
 F_z9:Fun K "learn" "Keeper.learn" s_z9 a.f_z9 a.d_z9
 b_z9:Binds K a.d_z9 ["self","wish"] []
 F_z0:Fun K "row_behind" "Keeper.row_behind" s_z0 a.f_z0 a.d_z0
 b_z0:Binds K a.d_z0 ["self","wish"] []
 F_z6:Fun K "price_to" "Rule.price_to" s_z6 a.f_z6 a.d_z6
 b_z6:Binds K a.d_z6 ["self","wish","after"] []
 F_z13:Fun K "price" "Store.price" s_z13 a.f_z13 a.d_z13
 b_z13:Binds K a.d_z13 ["self","before","wish","after"] []
 F_z5:Fun K "target" "Keeper.target" s_z5 a.f_z5 a.d_z5
 b_z5:Binds K a.d_z5 ["self","wish"] []
 F_z7:Fun K "is_wish" "Store.is_wish" s_z7 a.f_z7 a.d_z7
 b_z7:Binds K a.d_z7 ["self","thing"] []
 F_z28:Fun K "is_name" "is_name" s_z28 a.f_z28 a.d_z28
 b_z28:Binds K a.d_z28 ["thing"] []
 m_z28:mg "is_name"=some (.ref a.f_z28)
 F_z11:Fun K "__init__" "Keeper.__init__" s_z11 a.f_z11 a.d_z11
 b_z11:Binds K a.d_z11 ["self","pages"] []
 F_z18:Fun K "__init__" "Rule.__init__" s_z18 a.f_z18 a.d_z18
 b_z18:Binds K a.d_z18 ["self","world","start"] []
 F_z3:Fun K "is_state" "Store.is_state" s_z3 a.f_z3 a.d_z3
 b_z3:Binds K a.d_z3 ["self","thing"] []
 F_z20:Fun K "are_names" "are_names" s_z20 a.f_z20 a.d_z20
 b_z20:Binds K a.d_z20 ["thing"] []
 m_z20:mg "are_names"=some (.ref a.f_z20)
 F_z17:Fun K "__init__" "Store.__init__" s_z17 a.f_z17 a.d_z17
 b_z17:Binds K a.d_z17 ["self","many"] []
 F_z2:Fun K "is_row_of_names" "is_row_of_names" s_z2 a.f_z2 a.d_z2
 b_z2:Binds K a.d_z2 ["thing"] []
 m_z2:mg "is_row_of_names"=some (.ref a.f_z2)
 F_z21:Fun K "_law_shape" "_law_shape" s_z21 a.f_z21 a.d_z21
 b_z21:Binds K a.d_z21 ["_law_found","_law_k","_law_many"] []
 m_z21:mg "_law_shape"=some (.ref a.f_z21)
 F_z8:Fun K "_law_are_names" "_law_are_names" s_z8 a.f_z8 a.d_z8
 b_z8:Binds K a.d_z8 ["_law_thing","_law_many"] []
 m_z8:mg "_law_are_names"=some (.ref a.f_z8)
 F_z14:Fun K "_law_is_name" "_law_is_name" s_z14 a.f_z14 a.d_z14
 b_z14:Binds K a.d_z14 ["_law_thing"] []
 m_z14:mg "_law_is_name"=some (.ref a.f_z14)
 F_z1:Fun K "enemy_of_keeper" "enemy_of_keeper" s_z1 a.f_z1 a.d_z1
 b_z1:Binds K a.d_z1 ["k","many"] []
 m_z1:mg "enemy_of_keeper"=some (.ref a.f_z1)
 ck_z1:a.d_z1.code=.ref a.ck_z1
 hd_enemy_of_keeper:PySem.W.codeHdIn K a.ck_z1 a.tb_z1=true
 F_z35:Fun K "best" "best" s_z35 a.f_z35 a.d_z35
 b_z35:Binds K a.d_z35 ["world","start","wishes"] []
 nt_best_enemy_of_keeper:a.tb_z35≠a.tb_z1
 m_z35:mg "best"=some (.ref a.f_z35)
 ck_z35:a.d_z35.code=.ref a.ck_z35
 hd_best:PySem.W.codeHdIn K a.ck_z35 a.tb_z35=true
 F_z15:Fun K "traced_rows" "traced_rows" s_z15 a.f_z15 a.d_z15
 b_z15:Binds K a.d_z15 ["world","start","wishes"] []
 m_z15:mg "traced_rows"=some (.ref a.f_z15)
 F_z33:Fun K "reached" "reached" s_z33 a.f_z33 a.d_z33
 b_z33:Binds K a.d_z33 ["world","row","wish"] []
 m_z33:mg "reached"=some (.ref a.f_z33)
 F_z12:Fun K "moves" "Store.moves" s_z12 a.f_z12 a.d_z12
 b_z12:Binds K a.d_z12 ["self","before","wish"] []
 F_z10:Fun K "priced" "World.priced" s_z10 a.f_z10 a.d_z10
 b_z10:Binds K a.d_z10 ["self","before","wish","states"] []
 F_z34:Fun K "swapped" "swapped" s_z34 a.f_z34 a.d_z34
 b_z34:Binds K a.d_z34 ["pages","gone","wish"] []
 m_z34:mg "swapped"=some (.ref a.f_z34)
 F_z4:Fun K "wishes_against" "wishes_against" s_z4 a.f_z4 a.d_z4
 b_z4:Binds K a.d_z4 ["rule","many","worst"] []
 m_z4:mg "wishes_against"=some (.ref a.f_z4)
 F_z29:Fun K "lacking" "lacking" s_z29 a.f_z29 a.d_z29
 b_z29:Binds K a.d_z29 ["things","had"] []
 m_z29:mg "lacking"=some (.ref a.f_z29)
 F_z16:Fun K "state" "Rule.state" s_z16 a.f_z16 a.d_z16
 b_z16:Binds K a.d_z16 ["self"] []
 F_z31:Fun K "_law_mix" "_law_mix" s_z31 a.f_z31 a.d_z31
 b_z31:Binds K a.d_z31 ["_law_script","_law_k"] []
 m_z31:mg "_law_mix"=some (.ref a.f_z31)
 F_z32:Fun K "_law_raw" "_law_raw" s_z32 a.f_z32 a.d_z32
 b_z32:Binds K a.d_z32 ["_law_script","_law_k"] []
 m_z32:mg "_law_raw"=some (.ref a.f_z32)
 m_Bound:mg "Bound"=some (.ref a.c_Bound)
 cm_Bound_init:CMeth K a.c_Bound "__init__" a.f_z18
 m_Store:mg "Store"=some (.ref a.c_Store)
 cl_Store:Cls K a.c_Store
 mk_Store:Mk K a.c_Store a.f_z17
 na_Store_many:NoAttr K a.c_Store "many"
 me_Store_is_state:Meth K a.c_Store "is_state" a.f_z3
 me_Store_is_wish:Meth K a.c_Store "is_wish" a.f_z7
 me_Store_moves:Meth K a.c_Store "moves" a.f_z12
 me_Store_price:Meth K a.c_Store "price" a.f_z13
 me_Store_priced:Meth K a.c_Store "priced" a.f_z10
 m_Keeper:mg "Keeper"=some (.ref a.c_Keeper)
 cl_Keeper:Cls K a.c_Keeper
 mk_Keeper:Mk K a.c_Keeper a.f_z11
 na_Keeper_row:NoAttr K a.c_Keeper "row"
 na_Keeper_spent:NoAttr K a.c_Keeper "spent"
 na_Keeper_standing:NoAttr K a.c_Keeper "standing"
 na_Keeper_world:NoAttr K a.c_Keeper "world"
 me_Keeper_learn:Meth K a.c_Keeper "learn" a.f_z9
 me_Keeper_paid:Meth K a.c_Keeper "paid" a.f_z19
 me_Keeper_pay:Meth K a.c_Keeper "pay" a.f_z24
 me_Keeper_price_to:Meth K a.c_Keeper "price_to" a.f_z6
 me_Keeper_row_behind:Meth K a.c_Keeper "row_behind" a.f_z0
 me_Keeper_state:Meth K a.c_Keeper "state" a.f_z16
 me_Keeper_target:Meth K a.c_Keeper "target" a.f_z5
 n_all:mg "all"=none
 n_bool:mg "bool"=none
 n_int:mg "int"=none
 n_isinstance:mg "isinstance"=none
 n_len:mg "len"=none
 n_list:mg "list"=none
 n_max:mg "max"=none
 n_min:mg "min"=none
 n_range:mg "range"=none
 n_reversed:mg "reversed"=none
 n_set:mg "set"=none
 n_sorted:mg "sorted"=none
 n_str:mg "str"=none
 n_tuple:mg "tuple"=none
 n_zip:mg "zip"=none
 m_MOST_STATES:mg "MOST_STATES"=some (.int 60 a.t_MOST_STATES)
 m_NAMES:mg "NAMES"=some (.ref a.v_NAMES)
 q_NAMES:∀ H,SqT K H a.v_NAMES ((["a","b","c","d","e","f","g","h","i"]:List Str).map V.str)
section
variable {P:Program}{w:World}{K:PySem.W.Frag}{mg:Str→Option Value}{base:Heap}{a:Adr}
seal PA PE PS PSs PT
theorem jkd:FnScope ["_law_script","_law_k"] ["_law_script"] (j01 s_z36):=⟨rfl,rfl,rfl,by decide +kernel,rfl,by decide +kernel,by decide +kernel⟩
theorem j96:FnScope ["_law_k","_law_many","_law_found","_law_start","_law_wishes","_law_way","_law_kept"] ["_law_k","_law_many"] (j01 s_z22):=⟨rfl,rfl,rfl,by decide +kernel,rfl,by decide +kernel,by decide +kernel⟩
theorem j97:FnScope ["_law_found","_law_k","_law_many","_law_start","_law_wishes","_law_way","_law_rule","_law_wish"] ["_law_found","_law_k","_law_many"] (j01 s_z30):=⟨rfl,rfl,rfl,by decide +kernel,rfl,by decide +kernel,by decide +kernel⟩
theorem j98:FnScope ["_law_start","_law_way","_law_paid_here","_law_here","_law_after"] ["_law_start","_law_way"] (j01 s_z26):=⟨rfl,rfl,rfl,by decide +kernel,rfl,by decide +kernel,by decide +kernel⟩
theorem jh3:FnScope ["_law_found","_law_due","_law_one","_law_other"] ["_law_found","_law_due"] (j01 s_z27):=⟨rfl,rfl,rfl,by decide +kernel,rfl,by decide +kernel,by decide +kernel⟩
theorem sc_z23:FnScope ["_law_found"] ["_law_found"] (j01 s_z23):=⟨rfl,rfl,rfl,by decide +kernel,rfl,by decide +kernel,by decide +kernel⟩
theorem sc_z19:FnScope ["self"] ["self"] (j01 s_z19):=⟨rfl,rfl,rfl,by decide +kernel,rfl,by decide +kernel,by decide +kernel⟩
theorem j73:FnScope ["_law_start","_law_wishes","_law_row","_law_paid_here","_law_wish"] ["_law_start","_law_wishes"] (j01 s_z25):=⟨rfl,rfl,rfl,by decide +kernel,rfl,by decide +kernel,by decide +kernel⟩
theorem jh4:FnScope ["self","wish","after","cost"] ["self","wish"] (j01 s_z24):=⟨rfl,rfl,rfl,by decide +kernel,rfl,by decide +kernel,by decide +kernel⟩
theorem sc_z9:FnScope ["self","wish"] ["self","wish"] (j01 s_z9):=⟨rfl,rfl,rfl,by decide +kernel,rfl,by decide +kernel,by decide +kernel⟩
theorem sc_z0:FnScope ["self","wish"] ["self","wish"] (j01 s_z0):=⟨rfl,rfl,rfl,by decide +kernel,rfl,by decide +kernel,by decide +kernel⟩
theorem sc_z6:FnScope ["self","wish","after"] ["self","wish","after"] (j01 s_z6):=⟨rfl,rfl,rfl,by decide +kernel,rfl,by decide +kernel,by decide +kernel⟩
theorem sc_z13:FnScope ["self","before","wish","after"] ["self","before","wish","after"] (j01 s_z13):=⟨rfl,rfl,rfl,by decide +kernel,rfl,by decide +kernel,by decide +kernel⟩
theorem sc_z5:FnScope ["self","wish"] ["self","wish"] (j01 s_z5):=⟨rfl,rfl,rfl,by decide +kernel,rfl,by decide +kernel,by decide +kernel⟩
theorem sc_z7:FnScope ["self","thing"] ["self","thing"] (j01 s_z7):=⟨rfl,rfl,rfl,by decide +kernel,rfl,by decide +kernel,by decide +kernel⟩
theorem sc_z28:FnScope ["thing"] ["thing"] (j01 s_z28):=⟨rfl,rfl,rfl,by decide +kernel,rfl,by decide +kernel,by decide +kernel⟩
theorem sc_z11:FnScope ["self","pages"] ["self","pages"] (j01 s_z11):=⟨rfl,rfl,rfl,by decide +kernel,rfl,by decide +kernel,by decide +kernel⟩
theorem sc_z18:FnScope ["self","world","start"] ["self","world","start"] (j01 s_z18):=⟨rfl,rfl,rfl,by decide +kernel,rfl,by decide +kernel,by decide +kernel⟩
theorem sc_z3:FnScope ["self","thing"] ["self","thing"] (j01 s_z3):=⟨rfl,rfl,rfl,by decide +kernel,rfl,by decide +kernel,by decide +kernel⟩
theorem sc_z20:FnScope ["thing"] ["thing"] (j01 s_z20):=⟨rfl,rfl,rfl,by decide +kernel,rfl,by decide +kernel,by decide +kernel⟩
theorem sc_z17:FnScope ["self","many"] ["self","many"] (j01 s_z17):=⟨rfl,rfl,rfl,by decide +kernel,rfl,by decide +kernel,by decide +kernel⟩
theorem sc_z2:FnScope ["thing"] ["thing"] (j01 s_z2):=⟨rfl,rfl,rfl,by decide +kernel,rfl,by decide +kernel,by decide +kernel⟩
theorem jh5:FnScope ["_law_found","_law_k","_law_many","_law_wish","_law_state"] ["_law_found","_law_k","_law_many"] (j01 s_z21):=⟨rfl,rfl,rfl,by decide +kernel,rfl,by decide +kernel,by decide +kernel⟩
theorem sc_z8:FnScope ["_law_thing","_law_many"] ["_law_thing","_law_many"] (j01 s_z8):=⟨rfl,rfl,rfl,by decide +kernel,rfl,by decide +kernel,by decide +kernel⟩
theorem sc_z14:FnScope ["_law_thing"] ["_law_thing"] (j01 s_z14):=⟨rfl,rfl,rfl,by decide +kernel,rfl,by decide +kernel,by decide +kernel⟩
theorem jlu:FnScope ["k","many","start","rule","wishes"] ["k","many"] (j01 s_z1):=⟨rfl,rfl,rfl,by decide +kernel,rfl,by decide +kernel,by decide +kernel⟩
theorem j60:FnScope ["world","start","wishes","rows","last","state","least","way","row"] ["world","start","wishes"] (j01 s_z35):=⟨rfl,rfl,rfl,by decide +kernel,rfl,by decide +kernel,by decide +kernel⟩
theorem jh6:FnScope ["world","start","wishes","rows","wish"] ["world","start","wishes"] (j01 s_z15):=⟨rfl,rfl,rfl,by decide +kernel,rfl,by decide +kernel,by decide +kernel⟩
theorem j99:FnScope ["world","row","wish","found","before","paid","after","price"] ["world","row","wish"] (j01 s_z33):=⟨rfl,rfl,rfl,by decide +kernel,rfl,by decide +kernel,by decide +kernel⟩
theorem sc_z12:FnScope ["self","before","wish"] ["self","before","wish"] (j01 s_z12):=⟨rfl,rfl,rfl,by decide +kernel,rfl,by decide +kernel,by decide +kernel⟩
theorem jke:FnScope ["self","before","wish","states","pairs"] ["self","before","wish","states"] (j01 s_z10):=⟨rfl,rfl,rfl,by decide +kernel,rfl,by decide +kernel,by decide +kernel⟩
theorem sc_z34:FnScope ["pages","gone","wish"] ["pages","gone","wish"] (j01 s_z34):=⟨rfl,rfl,rfl,by decide +kernel,rfl,by decide +kernel,by decide +kernel⟩
theorem jlv:FnScope ["rule","many","worst","wishes","turn","wish"] ["rule","many","worst"] (j01 s_z4):=⟨rfl,rfl,rfl,by decide +kernel,rfl,by decide +kernel,by decide +kernel⟩
theorem sc_z29:FnScope ["things","had"] ["things","had"] (j01 s_z29):=⟨rfl,rfl,rfl,by decide +kernel,rfl,by decide +kernel,by decide +kernel⟩
theorem sc_z16:FnScope ["self"] ["self"] (j01 s_z16):=⟨rfl,rfl,rfl,by decide +kernel,rfl,by decide +kernel,by decide +kernel⟩
theorem jkf:FnScope ["_law_script","_law_k","_law_turn"] ["_law_script","_law_k"] (j01 s_z31):=⟨rfl,rfl,rfl,by decide +kernel,rfl,by decide +kernel,by decide +kernel⟩
theorem sc_z32:FnScope ["_law_script","_law_k"] ["_law_script","_law_k"] (j01 s_z32):=⟨rfl,rfl,rfl,by decide +kernel,rfl,by decide +kernel,by decide +kernel⟩
def jkg:Pos:=⟨104,34,104,60⟩
def jkh:Str:=("best"++".<locals>.")++"<lambda>"
def j2h:Pos:=⟨175,40,175,87⟩
def j0s:Str:=("enemy_of_keeper"++".<locals>.")++"<lambda>"
def j0e:Expr:=jjr 2 (stVal ((j09 s_z1).getD 2 (.Pass ⟨0,0,0,0⟩)))
section
variable {S:Type} [DecidableEq S]
def j1f {α:Type} (d:α) (l:List α):α:=l.foldl (fun _ x=>x) d
theorem j1l {α:Type} (d x:α) (l:List α):j1f d (l++[x])=x:=by unfold j1f;rw[List.foldl_append];rfl
abbrev Row (S:Type):=List (S × Int × Option S)
def getR (r:Row S) (s:S):Option (Int × Option S):=(r.find? fun e=>decide (e.1=s)).map (·.2)
def putR (r:Row S) (s:S) (x:Int × Option S):Row S:=if (r.any fun e=>decide (e.1=s))=true then r.map fun e=>if e.1=s then (e.1,x) else e else r++[(s,x)]
def j1s (p:Int) (b:S) (acc:Row S) (m:S × Int):Row S :=
 match getR acc m.1 with
 | none=>putR acc m.1 (p+m.2,some b)
 | some y=>if p+m.2 < y.1 then putR acc m.1 (p+m.2,some b) else acc
theorem jdq {p:Int}{b:S}{acc:Row S}{m:S × Int} (h:getR acc m.1=none):j1s p b acc m=putR acc m.1 (p+m.2,some b):=by unfold j1s;rw[h]
theorem jbi {p:Int}{b:S}{acc:Row S}{m:S × Int}{y:Int × Option S} (h:getR acc m.1=some y) (c:p+m.2 < y.1):j1s p b acc m=putR acc m.1 (p+m.2,some b):=by unfold j1s;rw[h];exact if_pos c
theorem jbj {p:Int}{b:S}{acc:Row S}{m:S × Int}{y:Int × Option S} (h:getR acc m.1=some y) (c:¬ p+m.2 < y.1):j1s p b acc m=acc:=by unfold j1s;rw[h];exact if_neg c
def jev (mv:S→List (S × Int)) (acc:Row S) (e:S × Int × Option S):Row S:=(mv e.1).foldl (j1s e.2.1 e.1) acc
def j0p (mv:S→List (S × Int)) (r:Row S):Row S:=r.foldl (jev mv) []
theorem j0z {e:S × Int × Option S}{r:Row S}{s:S} (h:e.1=s):getR (e :: r) s=some e.2:=by simp[getR,List.find?_cons,h]
theorem j15 {e:S × Int × Option S}{r:Row S}{s:S} (h:¬ e.1=s):getR (e :: r) s=getR r s:=by simp[getR,List.find?_cons,h]
theorem jbk {r:Row S}{s:S}{x:Int × Option S} (h:getR r s=some x):(s,x)∈r:=by
 induction r with
 | nil=>cases h
 | cons e r ih =>
  by_cases q:e.1=s
  ·rw[j0z q] at h
   cases h
   rw[← q]
   exact List.mem_cons_self
  ·rw[j15 q] at h
   exact List.mem_cons_of_mem _ (ih h)
theorem j3i (s:S):∀ r:Row S,(r.any fun e=>decide (e.1=s))=(getR r s).isSome
 | []=>rfl
 | e :: r=>by
  rw[List.any_cons,j3i s r]
  by_cases q:e.1=s
  ·rw[j0z q,decide_eq_true q];rfl
  ·rw[j15 q,decide_eq_false q,Bool.false_or]
theorem jew {r:Row S} (nd:(r.map (·.1)).Nodup) {e:S × Int × Option S} (h:e∈r):getR r e.1=some e.2:=by
 induction r with
 | nil=>cases h
 | cons f r ih =>
  rw[List.map_cons,List.nodup_cons] at nd
  rcases List.mem_cons.mp h with rfl | h
  ·exact j0z rfl
  ·rw[j15 (fun z=>nd.1 (z ▸ List.mem_map.mpr ⟨e,h,rfl⟩))]
   exact ih nd.2 h
theorem jbl (s t:S) (x:Int × Option S):∀ r:Row S,getR (r.map fun e=>if e.1=s then (e.1,x) else e) t=(getR r t).map fun y=>if t=s then x else y
 | []=>rfl
 | e :: r=>by
  rw[List.map_cons]
  by_cases q:e.1=t
  ·rw[j0z (e:=if e.1=s then (e.1,x) else e) (by split <;> exact q),j0z q]
   by_cases z:e.1=s
   ·rw[if_pos z,Option.map_some,if_pos (q.symm.trans z)]
   ·rw[if_neg z,Option.map_some,if_neg (fun w=>z (q.trans w))]
  ·rw[j15 (e:=if e.1=s then (e.1,x) else e) (by split <;> exact q),j15 q]
   exact jbl s t x r
theorem j88 (s t:S) (x:Int × Option S):∀ r:Row S,getR r s=none→getR (r++[(s,x)]) t=if t=s then some x else getR r t
 | [],_=>by
  by_cases q:t=s
  ·rw[if_pos q];exact j0z q.symm
  ·rw[if_neg q];exact j15 (fun z=>q z.symm)
 | e :: r,h=>by
  have ne:¬ e.1=s:=fun z=>by rw[j0z z] at h;cases h
  rw[j15 ne] at h
  rw[List.cons_append]
  by_cases q:e.1=t
  ·rw[j0z q,j0z q,if_neg (fun z=>ne (q.trans z))]
  ·rw[j15 q,j15 q]
   exact j88 s t x r h
theorem j4t (r:Row S) (s t:S) (x:Int × Option S):getR (putR r s x) t=if t=s then some x else getR r t:=by
 unfold putR
 rw[j3i]
 cases h:getR r s with
 | none =>
  rw[if_neg (by simp)]
  exact j88 s t x r h
 | some y =>
  rw[if_pos (by simp),jbl]
  by_cases q:t=s
  ·rw[if_pos q,q,h,Option.map_some,if_pos rfl]
  ·rw[if_neg q]
   cases getR r t with
   | none=>rfl
   | some y=>rw[Option.map_some,if_neg q]
theorem j89 (r:Row S) (s:S) (x:Int × Option S):((putR r s x).map (·.1))=if (getR r s).isSome=true then r.map (·.1) else r.map (·.1)++[s]:=by
 unfold putR
 rw[j3i]
 split
 ·rw[List.map_map]
  refine List.map_congr_left fun e _=>?_
  show (if e.1=s then (e.1,x) else e).1=e.1
  split <;> rfl
 ·rw[List.map_append];rfl
theorem j8a {r:Row S}{s:S} (h:getR r s=none):s∉r.map (·.1):=fun q=>by
 obtain⟨e,he,rfl⟩:=List.mem_map.mp q
 have:=j3i e.1 r
 rw[h] at this
 have z:(r.any fun f=>decide (f.1=e.1))=true:=List.any_eq_true.mpr ⟨e,he,by simp⟩
 rw[this] at z
 cases z
theorem j26 {r:Row S}{s:S} (h:s∈r.map (·.1)):∃ x,getR r s=some x:=by
 cases q:getR r s with
 | none=>exact absurd h (j8a q)
 | some x=>exact⟨x,rfl⟩
theorem j61 {r:Row S}{s:S}{x:Int × Option S} (nd:(r.map (·.1)).Nodup):((putR r s x).map (·.1)).Nodup:=by
 rw[j89]
 split
 ·exact nd
 ·rename_i h
  refine List.nodup_append.mpr ⟨nd,List.nodup_cons.mpr ⟨by simp,List.nodup_nil⟩,fun a ha b hb=>?_⟩
  rw[List.mem_singleton.mp hb]
  intro z
  rw[z] at ha
  exact j8a (by simpa using h) ha
theorem jbm {r:Row S}{s t:S}{x:Int × Option S} (h:t∈(putR r s x).map (·.1)):t=s∨t∈r.map (·.1):=by
 rw[j89] at h
 split at h
 ·exact .inr h
 ·rcases List.mem_append.mp h with h | h
  ·exact .inr h
  ·exact .inl (List.mem_singleton.mp h)
structure MadeR (mv:S→List (S × Int)) (r:Row S) (done:List (S × Int × Option S)) (acc:Row S):Prop where
 nd:(acc.map (·.1)).Nodup
 of:∀ s x,getR acc s=some x→∃ e m,e∈r∧m∈mv e.1∧m.1=s∧x=(e.2.1+m.2,some e.1)
 met:∀ e∈done,∀ m∈mv e.1,∃ x,getR acc m.1=some x∧x.1≤e.2.1+m.2
theorem j2w {p:Int}{b:S}{acc:Row S}{m:S × Int}:(∀ t,t≠m.1→getR (j1s p b acc m) t=getR acc t)∧(∃ x,getR (j1s p b acc m) m.1=some x∧x.1≤p+m.2∧(∀ y,getR acc m.1=some y→x.1≤y.1)∧(getR acc m.1=some x∨x=(p+m.2,some b)))∧((acc.map (·.1)).Nodup→((j1s p b acc m).map (·.1)).Nodup):=by
 unfold j1s
 cases h:getR acc m.1 with
 | none =>
  dsimp only
  refine⟨fun t ht=>by rw[j4t,if_neg ht],⟨_,by rw[j4t,if_pos rfl],Int.le_refl _,fun y hy=>(by cases hy),.inr rfl⟩,j61⟩
 | some y =>
  dsimp only
  split
  ·rename_i c
   refine⟨fun t ht=>by rw[j4t,if_neg ht],⟨_,by rw[j4t,if_pos rfl],Int.le_refl _,fun z hz=>(by cases hz;show p+m.2≤y.1;omega),.inr rfl⟩,j61⟩
  ·rename_i c
   exact⟨fun t _=>rfl,⟨y,h,by omega,fun z hz=>(by cases hz;exact Int.le_refl _),.inl rfl⟩,id⟩
theorem j8b {mv:S→List (S × Int)}{r:Row S}{e:S × Int × Option S} (he:e∈r):∀ (ms:List (S × Int)),(∀ m∈ms,m∈mv e.1)→∀ {done:List (S × Int × Option S)}{acc:Row S},MadeR mv r done acc →
  MadeR mv r done (ms.foldl (j1s e.2.1 e.1) acc)∧∀ m∈ms,∃ x,getR (ms.foldl (j1s e.2.1 e.1) acc) m.1=some x∧x.1≤e.2.1+m.2
 | [],_,done,acc,h=>⟨h,fun m hm=>by cases hm⟩
 | m :: ms,hm,done,acc,h=>by
  obtain⟨g1,⟨x,g2,g3,g4,g5⟩,g6⟩:=j2w (p:=e.2.1) (b:=e.1) (acc:=acc) (m:=m)
  have mono:∀ t y,getR acc t=some y→∃ z,getR (j1s e.2.1 e.1 acc m) t=some z∧z.1≤y.1:=fun t y hy=>by
   by_cases q:t=m.1
   ·subst q;exact⟨x,g2,g4 y hy⟩
   ·exact⟨y,by rw[g1 t q];exact hy,Int.le_refl _⟩
  have h1:MadeR mv r done (j1s e.2.1 e.1 acc m):=by
   refine⟨g6 h.nd,fun s y hy=>?_,fun f hf k hk=>?_⟩
   ·by_cases q:s=m.1
    ·subst q
     rw[g2] at hy
     cases hy
     rcases g5 with g5 | g5
     ·exact h.of _ _ g5
     ·exact⟨e,m,he,hm m List.mem_cons_self,rfl,g5⟩
    ·rw[g1 s q] at hy
     exact h.of _ _ hy
   ·obtain⟨y,y1,y2⟩:=h.met f hf k hk
    obtain⟨z,z1,z2⟩:=mono _ _ y1
    exact⟨z,z1,by omega⟩
  obtain⟨h2,h3⟩:=j8b he ms (fun k hk=>hm k (List.mem_cons_of_mem _ hk)) h1
  refine⟨h2,fun k hk=>?_⟩
  rcases List.mem_cons.mp hk with rfl | hk
  ·have:MadeR (fun s=>if s=e.1 then [k] else []) [e] [e] (j1s e.2.1 e.1 acc k)→True:=fun _=>trivial
   have keep:∀ (ks:List (S × Int)) (a:Row S) (t:S) (y:Int × Option S),getR a t=some y→∃ z,getR (ks.foldl (j1s e.2.1 e.1) a) t=some z∧z.1≤y.1:=by
    intro ks
    induction ks with
    | nil=>intro a t y hy;exact⟨y,hy,Int.le_refl _⟩
    | cons k' ks ih =>
     intro a t y hy
     obtain⟨k1,⟨x',k2,k3,k4,k5⟩,_⟩:=j2w (p:=e.2.1) (b:=e.1) (acc:=a) (m:=k')
     obtain⟨z,z1,z2⟩:∃ z,getR (j1s e.2.1 e.1 a k') t=some z∧z.1≤y.1:=by
      by_cases q:t=k'.1
      ·subst q;exact⟨x',k2,k4 y hy⟩
      ·exact⟨y,by rw[k1 t q];exact hy,Int.le_refl _⟩
     obtain⟨w,w1,w2⟩:=ih _ t z z1
     exact⟨w,w1,by omega⟩
   obtain⟨z,z1,z2⟩:=keep ms _ _ x g2
   exact⟨z,z1,by omega⟩
  ·exact h3 k hk
theorem j62 (mv:S→List (S × Int)) (r:Row S):∀ (es done:List (S × Int × Option S)) (acc:Row S),(∀ e∈es,e∈r)→MadeR mv r done acc→MadeR mv r (done++es) (es.foldl (jev mv) acc)
 | [],done,acc,_,h=>by rw[List.append_nil];exact h
 | e :: es,done,acc,hr,h=>by
  obtain⟨h1,h2⟩:=j8b (hr e List.mem_cons_self) (mv e.1) (fun m hm=>hm) h
  have h3:MadeR mv r (done++[e]) (jev mv acc e):=⟨h1.nd,h1.of,fun f hf k hk=>by
   rcases List.mem_append.mp hf with hf | hf
   ·exact h1.met f hf k hk
   ·rw[List.mem_singleton.mp hf] at hk ⊢
    exact h2 k hk⟩
  have:=j62 mv r es (done++[e]) (jev mv acc e) (fun f hf=>hr f (List.mem_cons_of_mem _ hf)) h3
  rwa [List.append_assoc] at this
theorem j0n (mv:S→List (S × Int)) (r:Row S):MadeR mv r r (j0p mv r):=by
 have:=j62 mv r r [] [] (fun e h=>h) ⟨List.nodup_nil,fun s x h=>(by cases h),fun e h=>(by cases h)⟩
 rwa [List.nil_append] at this
def allR (r:Row S):List (S→List (S × Int))→List (Row S)
 | []=>[r]
 | mv :: mvs=>r :: allR (j0p mv r) mvs
theorem j1b (mvs:List (S→List (S × Int))):∀ r,(allR r mvs).length=mvs.length+1:=by
 induction mvs with
 | nil=>intro r;rfl
 | cons mv mvs ih=>intro r;show (allR _ mvs).length+1=_;rw[ih];rfl
theorem j4u (mvs:List (S→List (S × Int))) (mv:S→List (S × Int)):∀ r,allR r (mvs++[mv])=allR r mvs++[j0p mv (j1f r (allR r mvs))]:=by
 induction mvs with
 | nil=>intro r;rfl
 | cons m mvs ih =>
  intro r
  show r :: allR (j0p m r) (mvs++[mv])=(r :: allR (j0p m r) mvs)++_
  rw[ih,List.cons_append]
  cases h:allR (j0p m r) mvs with
  | nil=>have:=j1b mvs (j0p m r);rw[h] at this;simp at this
  | cons x l =>
   have:allR r (m :: mvs)=r :: x :: l:=by show r :: allR (j0p m r) mvs=_;rw[h]
   rw[this]
   rfl
inductive WayR:S→List (S→List (S × Int))→List S→Int→Prop
 | nil {s:S}:WayR s [] [] 0
 | cons {s t:S}{p q:Int}{mv:S→List (S × Int)}{mvs:List (S→List (S × Int))}{ws:List S}:(t,p)∈mv s→WayR t mvs ws q→WayR s (mv :: mvs) (t :: ws) (p+q)
theorem jex:∀ {mvs:List (S→List (S × Int))}{s:S}{ws:List S}{q:Int},WayR s mvs ws q→∀ {r:Row S},(r.map (·.1)).Nodup→∀ {x:Int × Option S},getR r s=some x→∃ y,getR (j1f r (allR r mvs)) (j1f s (ws))=some y∧y.1≤x.1+q
 | _,_,_,_,.nil,r,_,x,h=>⟨x,h,by omega⟩
 | _,s,_,_,.cons (t:=t) (p:=p) (q:=q) (mv:=mv) (mvs:=mvs) (ws:=ws) hm hw,r,nd,x,h=>by
  have M:=j0n mv r
  obtain⟨y,y1,y2⟩:=M.met (s,x) (jbk h) (t,p) hm
  obtain⟨z,z1,z2⟩:=jex hw M.nd y1
  refine⟨z,?_,by have:y.1≤x.1+p:=y2;omega⟩
  have e1:j1f r (allR r (mv :: mvs))=j1f (j0p mv r) (allR (j0p mv r) mvs):=by
   show j1f r (r :: allR (j0p mv r) mvs)=_
   cases hq:allR (j0p mv r) mvs with
   | nil=>have:=j1b mvs (j0p mv r);rw[hq] at this;simp at this
   | cons a l=>rfl
  have e2:j1f s (t :: ws)=j1f t (ws):=rfl
  rw[e1,e2]
  exact z1
def j8c (r:Row S) (s:S):S:=((getR r s).bind (·.2)).getD s
def j2n:List (Row S)→S→List S
 | [],_=>[]
 | r :: rs,s=>s :: j2n rs (j8c r s)
theorem j74:∀ {mvs:List (S→List (S × Int))}{s:S}{ws:List S}{q:Int},WayR s mvs ws q→∀ {mv:S→List (S × Int)}{t:S}{p:Int},(t,p)∈mv (j1f s (ws))→WayR s (mvs++[mv]) (ws++[t]) (q+p)
 | _,_,_,_,.nil,mv,t,p,h=>by
  have:=WayR.cons (mvs:=[]) (ws:=[]) h .nil
  rw[show (0:Int)+p=p+0 by omega]
  exact this
 | _,s,_,_,.cons (t:=u) (p:=a) (q:=b) (ws:=ws) hm hw,mv,t,p,h=>by
  have e2:j1f s (u :: ws)=j1f u (ws):=rfl
  rw[e2] at h
  have:=WayR.cons hm (j74 hw h)
  rw[show a+b+p=a+(b+p) by omega]
  exact this
theorem j8d (st:S):∀ (n:Nat) (mvs:List (S→List (S × Int))),mvs.length=n→∀ (s:S) (x:Int × Option S),getR (j1f [] (allR [(st,0,none)] mvs)) s=some x →
  WayR st mvs (j2n ((allR [(st,0,none)] mvs).drop 1).reverse s).reverse x.1∧(j1f st ((j2n ((allR [(st,0,none)] mvs).drop 1).reverse s).reverse))=s
 | 0,mvs,hl,s,x,h=>by
  cases (List.length_eq_zero_iff.mp hl)
  have h':getR [(st,(0:Int),(none:Option S))] s=some x:=h
  by_cases q:st=s
  ·rw[j0z q] at h'
   cases h'
   exact⟨.nil,q⟩
  ·rw[j15 q] at h'
   cases h'
 | n+1,mvs,hl,s,x,h=>by
  have hne:mvs≠[]:=fun z=>by rw[z] at hl;simp at hl
  obtain⟨ms,mv,rfl⟩:∃ ms mv,mvs=ms++[mv]:=⟨mvs.dropLast,mvs.getLast hne,(List.dropLast_concat_getLast hne).symm⟩
  have hl':ms.length=n:=by simpa using hl
  have ln:=j1b ms [(st,(0:Int),(none:Option S))]
  rw[j4u] at h ⊢
  generalize hL:allR [(st,(0:Int),(none:Option S))] ms=L at *
  obtain⟨a,L',rfl⟩:∃ a L',L=a :: L':=by
   cases L with
   | nil=>simp at ln
   | cons a L'=>exact⟨a,L',rfl⟩
  have el:j1f [] ((a :: L')++[j0p mv (j1f [(st,0,none)] (a :: L'))])=j0p mv (j1f [(st,0,none)] (a :: L')):=j1l _ _ _
  rw[el] at h
  have M:=j0n mv (j1f [(st,0,none)] (a :: L'))
  obtain⟨e,m,he,hm,hs,hx⟩:=M.of s x h
  have ed:((a :: L')++[j0p mv (j1f [(st,0,none)] (a :: L'))]).drop 1=L'++[j0p mv (j1f [(st,0,none)] (a :: L'))]:=rfl
  have pv:j8c (j0p mv (j1f [(st,0,none)] (a :: L'))) s=e.1:=by unfold j8c;rw[h,hx];rfl
  have et:j2n (((a :: L')++[j0p mv (j1f [(st,0,none)] (a :: L'))]).drop 1).reverse s=s :: j2n L'.reverse e.1:=by
   rw[ed,List.reverse_append]
   show s :: j2n L'.reverse (j8c _ s)=_
   rw[pv]
  have eL:j1f [(st,0,none)] (a :: L')=j1f [] (a :: L'):=rfl
  have nd:((j1f [] (a :: L')).map (·.1)).Nodup:=by
   cases ms with
   | nil =>
    have:a :: L'=[[(st,(0:Int),(none:Option S))]]:=hL.symm
    rw[this]
    show ([(st,(0:Int),(none:Option S))].map (·.1)).Nodup
    simp
   | cons m0 ms0 =>
    have hne2:(m0 :: ms0)≠[]:=by simp
    have e3:m0 :: ms0=(m0 :: ms0).dropLast++[(m0 :: ms0).getLast hne2]:=(List.dropLast_concat_getLast hne2).symm
    rw[e3,j4u] at hL
    rw[← hL]
    have:=(j0n ((m0 :: ms0).getLast hne2) (j1f [(st,0,none)] (allR [(st,(0:Int),(none:Option S))] (m0 :: ms0).dropLast))).nd
    rw[j1l]
    exact this
  rw[eL] at he
  have ge:=jew nd he
  obtain⟨i1,i2⟩:=j8d st n ms hl' e.1 e.2 (by rw[hL];exact ge)
  rw[hL] at i1 i2
  have i1':WayR st ms (j2n L'.reverse e.1).reverse e.2.1:=i1
  have i2':j1f st ((j2n L'.reverse e.1).reverse)=e.1:=i2
  rw[et,List.reverse_cons,hx]
  refine⟨?_,j1l _ _ _⟩
  obtain⟨m1,m2⟩:=m
  cases (show m1=s from hs)
  exact j74 i1' (by rw[i2'];exact hm)
end
section
variable {S:Type} [DecidableEq S]
theorem j4v (r:Row S) (mvs:List (S→List (S × Int))):(allR r mvs).getD 0 []=r:=by cases mvs <;> rfl
theorem j27:∀ (mvs:List (S→List (S × Int))) (r:Row S) (j:Nat),j < mvs.length→(allR r mvs).getD (j+1) []=j0p (mvs.getD j fun _=>[]) ((allR r mvs).getD j [])
 | [],r,j,h=>by simp at h
 | mv :: mvs,r,0,h=>by
  show (allR (j0p mv r) mvs).getD 0 []=j0p mv r
  exact j4v _ _
 | mv :: mvs,r,j+1,h=>by
  have:=j27 mvs (j0p mv r) j (by simpa using h)
  show (allR (j0p mv r) mvs).getD (j+1) []=j0p ((mv :: mvs).getD (j+1) fun _=>[]) ((allR (j0p mv r) mvs).getD j [])
  rw[this]
  congr 1
def stT (R:List (Row S)) (s:S):Nat→S
 | 0=>s
 | i+1=>j8c (R.getD i []) (stT R s i)
theorem jbn (r:Row S) (R:List (Row S)) (s:S):∀ i,stT (r :: R) s (i+1)=stT R (j8c r s) i
 | 0=>rfl
 | i+1=>by
  show j8c ((r :: R).getD (i+1) []) (stT (r :: R) s (i+1))=j8c (R.getD i []) (stT R (j8c r s) i)
  rw[jbn r R s i]
  rfl
theorem jbo:∀ (R:List (Row S)) (s:S),j2n R s=(List.range R.length).map (stT R s)
 | [],s=>rfl
 | r :: R,s=>by
  show s :: j2n R (j8c r s)=_
  rw[jbo R,List.length_cons,List.range_succ_eq_map,List.map_cons,List.map_map]
  congr 1
  exact List.map_congr_left fun i _=>(jbn r R s i).symm
theorem j49 {α:Type} (L:List α) (d:α) (T i:Nat) (hl:L.length=T+1) (hi:i < T):(L.drop 1).reverse.getD i d=L.getD (T-i) d:=by
 have l1:(L.drop 1).length=T:=by rw[List.length_drop];omega
 rw[List.getD_eq_getElem?_getD,List.getElem?_reverse (by omega),List.getElem?_drop,l1,List.getD_eq_getElem?_getD]
 congr 2
 omega
theorem jki {r0:Row S}{mvs:List (S→List (S × Int))}{s:S} (hs:s∈((allR r0 mvs).getD mvs.length []).map (·.1)):∀ i,i≤mvs.length→stT ((allR r0 mvs).drop 1).reverse s i∈((allR r0 mvs).getD (mvs.length-i) []).map (·.1)
 | 0,_=>hs
 | i+1,hi=>by
  have ih:=jki hs i (by omega)
  obtain⟨x,hx⟩:=j26 ih
  have e1:=j49 (allR r0 mvs) [] mvs.length i (j1b mvs r0) (by omega)
  have e2:=j27 mvs r0 (mvs.length-(i+1)) (by omega)
  rw[show mvs.length-(i+1)+1=mvs.length-i by omega] at e2
  have M:=j0n (mvs.getD (mvs.length-(i+1)) fun _=>[]) ((allR r0 mvs).getD (mvs.length-(i+1)) [])
  have hx':=hx
  rw[e2] at hx'
  obtain⟨e,m,he,_,_,ex⟩:=M.of _ _ hx'
  show j8c (((allR r0 mvs).drop 1).reverse.getD i []) (stT ((allR r0 mvs).drop 1).reverse s i)∈_
  rw[e1]
  unfold j8c
  rw[hx,ex]
  exact List.mem_map.mpr ⟨e,he,rfl⟩
theorem jkj {r0:Row S}{mvs:List (S→List (S × Int))}{s:S} (hs:s∈((allR r0 mvs).getD mvs.length []).map (·.1)) (i:Nat) (hi:i < mvs.length):∃ p b,getR ((allR r0 mvs).getD (mvs.length-i) []) (stT ((allR r0 mvs).drop 1).reverse s i)=some (p,some b)∧stT ((allR r0 mvs).drop 1).reverse s (i+1)=b:=by
 obtain⟨x,hx⟩:=j26 (jki hs i (by omega))
 have e1:=j49 (allR r0 mvs) [] mvs.length i (j1b mvs r0) hi
 have e2:=j27 mvs r0 (mvs.length-(i+1)) (by omega)
 rw[show mvs.length-(i+1)+1=mvs.length-i by omega] at e2
 have M:=j0n (mvs.getD (mvs.length-(i+1)) fun _=>[]) ((allR r0 mvs).getD (mvs.length-(i+1)) [])
 have hx':=hx
 rw[e2] at hx'
 obtain⟨e,m,he,_,_,ex⟩:=M.of _ _ hx'
 refine⟨_,e.1,by rw[hx,ex],?_⟩
 show j8c (((allR r0 mvs).drop 1).reverse.getD i []) (stT ((allR r0 mvs).drop 1).reverse s i)=_
 rw[e1]
 unfold j8c
 rw[hx,ex]
 rfl
theorem j4w {α:Type} (d:α):∀ (L:List α) (n:Nat),L.length=n+1→j1f d L=L.getD n d
 | [],n,h=>by simp at h
 | [x],0,h=>rfl
 | [x],n+1,h=>by simp at h
 | x :: y :: L,0,h=>by simp at h
 | x :: y :: L,n+1,h=>by
  have e:j1f d (x :: y :: L)=j1f d (y :: L):=rfl
  rw[e,j4w d (y :: L) n (by simpa using h)]
  rfl
end
theorem jdr {S:Type} [DecidableEq S] {mv:S→List (S × Int)}{r:Row S} (hr:r≠[]) (hm:∀ s∈r.map (·.1),mv s≠[]):j0p mv r≠[]:=by
 obtain⟨e,he⟩:=List.exists_mem_of_ne_nil r hr
 obtain⟨m,hm⟩:=List.exists_mem_of_ne_nil _ (hm e.1 (List.mem_map.mpr ⟨e,he,rfl⟩))
 obtain⟨x,hx,_⟩:=(j0n mv r).met e he m hm
 intro z
 rw[z] at hx
 cases hx
theorem jkk {S:Type} [DecidableEq S] {mvs:List (S→List (S × Int))}{s:S}{ws:List S}{q:Int} (h:WayR s mvs ws q):ws.length=mvs.length:=by
 induction h with
 | nil=>rfl
 | cons _ _ ih=>simp[ih]
def TK (H H':Hp):Prop:=∀ b xs,H b=some (.tup xs)→H' b=some (.tup xs)
theorem TK.tr {H H1 H2:Hp} (a:TK H H1) (b:TK H1 H2):TK H H2:=fun c xs h=>b c xs (a c xs h)
theorem jbp {H H':Hp} (e:Ext H H'):TK H H':=fun b xs h=>e b _ h
theorem jey {H H':Hp} (e:ExtT H H'):TK H H':=fun b xs h=>e b _ h rfl
theorem j4a {H H':Hp}{x:Addr}{kvs:List (List Key × V)} (hx:H x=some (.dT kvs)) (b:But x H H'):TK H H':=fun c xs h=>b c _ (fun z=>by rw[z,hx] at h;cases h) h
theorem jbq {H H':Hp}{x:Addr}{ys:List V} (hx:H x=some (.lst ys)) (b:But x H H'):TK H H':=fun c xs h=>b c _ (fun z=>by rw[z,hx] at h;cases h) h
section
variable {S κ:Type} [DecidableEq S] [DecidableEq κ]
def bfV (sv:Hp→S→V→Prop) (H:Hp):Option S→V→Prop
 | none,v=>v=.non
 | some s,v=>sv H s v
inductive RowG (key:S→κ) (sv:Hp→S→V→Prop) (H:Hp):List (κ × V)→Row S→Prop
 | nil:RowG key sv H [] []
 | cons {s:S}{q:Addr}{p:Int}{b:Option S}{bv:V}{kvs:List (κ × V)}{r:Row S}:H q=some (.tup [.int p,bv])→bfV sv H b bv→RowG key sv H kvs r→RowG key sv H ((key s,.ref q) :: kvs) ((s,p,b) :: r)
variable {key:S→κ}{sv:Hp→S→V→Prop}{H H':Hp}{kvs:List (κ × V)}{r:Row S}
theorem RowG.mono (mo:∀ {s v},sv H s v→sv H' s v) (e:TK H H') (h:RowG key sv H kvs r):RowG key sv H' kvs r:=by
 induction h with
 | nil=>exact .nil
 | @cons s q p b bv kvs r hq hb _ ih =>
  refine .cons (e _ _ hq) ?_ ih
  cases b with
  | none=>exact hb
  | some x=>exact mo hb
theorem RowG.length (h:RowG key sv H kvs r):kvs.length=r.length:=by
 induction h with
 | nil=>rfl
 | cons _ _ _ ih=>simp[ih]
theorem RowG.keys (h:RowG key sv H kvs r):kvs.map (·.1)=r.map fun e=>key e.1:=by
 induction h with
 | nil=>rfl
 | cons _ _ _ ih=>simp[ih]
theorem RowG.at (h:RowG key sv H kvs r):∀ (i:Nat) (kv:κ × V),kvs[i]?=some kv→∃ s q p b bv,r[i]?=some (s,p,b)∧kv=(key s,.ref q)∧H q=some (.tup [.int p,bv])∧bfV sv H b bv:=by
 induction h with
 | nil=>exact fun i kv h=>by simp at h
 | @cons s q p b bv kvs r hq hb _ ih =>
  intro i kv h
  cases i with
  | zero=>simp at h;exact⟨s,q,p,b,bv,by simp,h.symm,hq,hb⟩
  | succ i=>simpa using ih i kv (by simpa using h)
theorem RowG.val (inj:∀ a b,key a=key b→a=b) (h:RowG key sv H kvs r) (s:S):(valV kvs (key s)=none∧getR r s=none)∨∃ q p b bv,valV kvs (key s)=some (.ref q)∧getR r s=some (p,b)∧H q=some (.tup [.int p,bv])∧bfV sv H b bv:=by
 induction h with
 | nil=>exact .inl ⟨rfl,rfl⟩
 | @cons t q p b bv kvs r hq hb _ ih =>
  by_cases e:t=s
  ·subst e
   exact .inr ⟨q,p,b,bv,j4j rfl,j0z rfl,hq,hb⟩
  ·rw[j4k (p:=(key t,V.ref q)) (fun z=>e (inj _ _ z)),j15 (e:=(t,p,b)) e]
   exact ih
theorem RowG.any (inj:∀ a b,key a=key b→a=b) (h:RowG key sv H kvs r) (s:S):(kvs.any fun kv=>decide (kv.1=key s))=r.any fun e=>decide (e.1=s):=by
 rw[j6n,j3i]
 rcases h.val inj s with⟨a,b⟩ | ⟨q,p,b,bv,a,c,_⟩
 ·rw[a,b];rfl
 ·rw[a,c];rfl
theorem RowG.repl (inj:∀ a b,key a=key b→a=b) (h:RowG key sv H kvs r) {s:S}{q:Addr}{p:Int}{b:Option S}{bv:V} (hq:H q=some (.tup [.int p,bv])) (hb:bfV sv H b bv):RowG key sv H (kvs.map fun kv=>if kv.1=key s then (kv.1,.ref q) else kv) (r.map fun e=>if e.1=s then (e.1,(p,b)) else e):=by
 induction h with
 | nil=>exact .nil
 | @cons t q' p' b' bv' kvs r hq' hb' _ ih =>
  rw[List.map_cons,List.map_cons]
  by_cases e:t=s
  ·subst e
   rw[if_pos rfl,if_pos rfl]
   exact .cons hq hb ih
  ·rw[if_neg (show ¬ (key t,V.ref q').1=key s from fun z=>e (inj _ _ z)),if_neg (show ¬ (t,p',b').1=s from e)]
   exact .cons hq' hb' ih
theorem RowG.snoc (h:RowG key sv H kvs r) {s:S}{q:Addr}{p:Int}{b:Option S}{bv:V} (hq:H q=some (.tup [.int p,bv])) (hb:bfV sv H b bv):RowG key sv H (kvs++[(key s,.ref q)]) (r++[(s,(p,b))]):=by
 induction h with
 | nil=>exact .cons hq hb .nil
 | cons hq' hb' _ ih=>exact .cons hq' hb' ih
theorem RowG.put (inj:∀ a b,key a=key b→a=b) (h:RowG key sv H kvs r) {s:S}{q:Addr}{p:Int}{b:Option S}{bv:V} (hq:H q=some (.tup [.int p,bv])) (hb:bfV sv H b bv):RowG key sv H (putK kvs (key s) (.ref q)) (putR r s (p,b)):=by
 unfold putK putR
 rw[h.any inj s]
 split
 ·exact h.repl inj hq hb
 ·exact h.snoc hq hb
end
theorem j8e:∀ (n:Nat) (l:List Nat),l.Nodup→(∀ x∈l,x < n)→l.length≤n
 | 0,l,_,h=>by
  cases l with
  | nil=>exact Nat.le_refl _
  | cons x r=>exact absurd (h x List.mem_cons_self) (by omega)
 | n+1,l,nd,h=>by
  by_cases q:n∈l
  ·have:=j8e n (l.erase n) (nd.erase _) fun x hx=>by
    have h1:=h x (List.mem_of_mem_erase hx)
    have h2:x≠n:=fun z=>by
     rw[z] at hx
     exact (List.Nodup.not_mem_erase nd) hx
    omega
   rw[List.length_erase_of_mem q] at this
   omega
  ·have:=j8e n l nd fun x hx=>by
    have h1:=h x hx
    have h2:x≠n:=fun z=>q (z ▸ hx)
    omega
   omega
theorem jh7 {n:Nat}{l:List Int} (nd:l.Nodup) (h:∀ x∈l,0≤x∧x < n):l.length≤n:=by
 have:=j8e n (l.map Int.toNat) (by
  refine List.pairwise_map.mpr (List.Pairwise.imp_of_mem (fun {a b} ha hb q z=>q ?_) nd)
  have:=h a ha
  have:=h b hb
  omega) fun x hx=>by
   obtain⟨y,hy,rfl⟩:=List.mem_map.mp hx
   have:=h y hy
   omega
 simpa using this
structure AccI (n:Nat) (acc:Row Int):Prop where
 nd:(acc.map (·.1)).Nodup
 lt:∀ s:Int,s∈acc.map (·.1)→0≤s∧s < (n:Int)
theorem AccI.len {n:Nat}{acc:Row Int} (h:AccI n acc):acc.length≤n:=by
 have:=jh7 h.nd h.lt
 simpa using this
theorem AccI.step {n:Nat}{acc:Row Int}{p b:Int}{m:Int × Int} (h:AccI n acc) (h0:0≤m.1) (h1:m.1 < n):AccI n (j1s p b acc m):=by
 obtain⟨_,_,g⟩:=j2w (p:=p) (b:=b) (acc:=acc) (m:=m)
 refine⟨g h.nd,fun s hs=>?_⟩
 have put:∀ x,s∈(putR acc m.1 x).map (·.1)→0≤s∧s < (n:Int):=fun x hx=>by
  rcases jbm hx with e | e
  ·rw[e];exact⟨h0,h1⟩
  ·exact h.lt s e
 unfold j1s at hs
 split at hs
 ·exact put _ hs
 ·split at hs
  ·exact put _ hs
  ·exact h.lt s hs
theorem j8f {α:Type}{xs:List α}{v:α} (h:0 < xs.length) (e:xs[xs.length-1]?=some v):atI xs (-1)=some v:=by
 have:ixN xs.length (-1)=some (xs.length-1):=by
  unfold ixN
  rw[if_neg (by decide),if_pos (by omega)]
  congr 1
  omega
 unfold atI
 rw[this]
 exact e
theorem jkl (xs:List V) (h:1≤xs.length):cutV xs (some 1) none=xs.drop 1:=by
 unfold cutV HT.sIx
 dsimp only
 rw[if_neg (by decide),show min (1:Int).toNat xs.length=1 by show min 1 xs.length=1;omega]
 exact List.take_of_length_le (by rw[List.length_drop];exact Nat.le_refl _)
def nmL (c:Nat):Bool:=decide (97≤c) && decide (c≤122)
def nmS (z:Str):Bool:=decide (1≤z.length) && decide (z.length≤8) && z.cps.toList.all nmL
theorem j63 {z:Str} (h:nmS z=true):AscS z:=by
 unfold nmS at h
 rw[Bool.and_eq_true] at h
 unfold AscS
 rw[Array.all_eq_true_iff_forall_mem]
 intro c hc
 have:=List.all_eq_true.mp h.2 c (by simpa using hc)
 unfold nmL at this
 rw[Bool.and_eq_true,decide_eq_true_iff,decide_eq_true_iff] at this
 exact decide_eq_true (by omega)
theorem j8g {z:Str} (h:nmS z=true):1≤z.length∧z.length≤8:=by
 unfold nmS at h
 rw[Bool.and_eq_true,Bool.and_eq_true,decide_eq_true_iff,decide_eq_true_iff] at h
 exact h.1
theorem cps_a:(Str.ofString "a").cps.toList=[97]:=by decide
theorem cps_z:(Str.ofString "z").cps.toList=[122]:=by decide
theorem le_a (c:Nat):(!decide (([c]:List Nat) < [97]))=decide (97≤c):=by
 rw[← decide_not]
 apply decide_eq_decide.mpr
 rw[List.cons_lt_cons_iff]
 simp
theorem le_z (c:Nat):(!decide (([122]:List Nat) < [c]))=decide (c≤122):=by
 rw[← decide_not]
 apply decide_eq_decide.mpr
 rw[List.cons_lt_cons_iff]
 simp
def nmV:V→Bool
 | .str z=>nmS z
 | _=>false
structure Names (ss:List Str):Prop where
 nm:∀ s∈ss,nmS s=true
 nd:ss.Nodup
 lo:1≤ss.length
 hi:ss.length≤8
theorem Names.perm {ss qs:List Str} (h:Names ss) (p:qs.Perm ss):Names qs:=⟨fun s hs=>h.nm s (p.mem_iff.mp hs),p.nodup_iff.mpr h.nd,by rw[p.length_eq];exact h.lo,by rw[p.length_eq];exact h.hi⟩
def frt (w:Str) (ss:List Str):List Str:=w :: ss.filter fun t=>!decide (t=w)
theorem jds {w:Str}{L R:List Str} (h:(L++w :: R).Nodup):frt w (L++w :: R)=w :: (L++R):=by
 unfold frt
 have hL:∀ t∈L,t≠w:=fun t ht e=>by
  rw[List.nodup_append] at h
  exact h.2.2 t ht w List.mem_cons_self e
 have hR:∀ t∈R,t≠w:=fun t ht e=>by
  rw[List.nodup_append] at h
  have:=(List.nodup_cons.mp h.2.1).1
  rw[e] at ht
  exact this ht
 rw[List.filter_append,List.filter_cons,if_neg (by simp),List.filter_eq_self.mpr fun t ht=>by simp[hL t ht],List.filter_eq_self.mpr fun t ht=>by simp[hR t ht]]
theorem jh8 {w:Str}{ss:List Str} (h:ss.Nodup) (hw:w∈ss):(frt w ss).Perm ss:=by
 obtain⟨L,R,rfl⟩:=List.append_of_mem hw
 rw[jds h]
 exact List.perm_middle.symm
theorem j3j:∀ {l:List Str},sortedS l=true→l.Pairwise fun a b=>¬ b.cps.toList < a.cps.toList
 | [],_=>List.Pairwise.nil
 | x :: r,h=>by
  have key:∀ (p:Str) (l:List Str),risingS p l=true→(p :: l).Pairwise fun a b=>¬ b.cps.toList < a.cps.toList:=by
   intro p l
   induction l generalizing p with
   | nil=>intro _;simp
   | cons y r ih =>
    intro h
    have h':(!ltCps y.cps.toList p.cps.toList && risingS y r)=true:=h
    rw[Bool.and_eq_true] at h'
    have h2:=ih y h'.2
    have h1:¬ y.cps.toList < p.cps.toList:=by
     have:=h'.1
     rw[ltCps_eq] at this
     simpa using this
    refine List.pairwise_cons.mpr ⟨fun z hz=>?_,h2⟩
    rcases List.mem_cons.mp hz with rfl | hz
    ·exact h1
    ·have h3:=(List.pairwise_cons.mp h2).1 z hz
     exact fun q=>h1 (List.lt_of_le_of_lt (List.not_lt.mp h3) q)
  exact key x r h
theorem jkm {a b:Str} (h:a.cps.toList=b.cps.toList):a=b:=by
 cases a;cases b
 congr 1
 exact Array.toList_inj.mp h
theorem j16 {a b:List Str} (p:a.Perm b) (ha:sortedS a=true) (hb:sortedS b=true):a=b :=
 List.Perm.eq_of_pairwise (fun x y _ _ h1 h2=>jkm (List.le_antisymm (List.not_lt.mp h1) (List.not_lt.mp h2))) (j3j ha) (j3j hb) p
theorem j1m (x:Str) (ss:List Str):inV (.str x) (ss.map V.str)=decide (x∈ss):=by
 unfold inV
 rw[List.any_map,Bool.eq_iff_iff,List.any_eq_true,decide_eq_true_iff]
 constructor
 ·rintro⟨y,hy,e⟩
  have:y=x:=by simpa[eqV] using e
  exact this ▸ hy
 ·intro h
  exact⟨x,h,by simp[eqV]⟩
theorem j1a (ss:List Str):(ss.map V.str).all j5k=true:=by rw[List.all_map,List.all_eq_true];intro x _;rfl
theorem j1d {ss:List Str}{i:Nat}{y:V} (h:(ss.map V.str)[i]?=some y):∃ x,ss[i]?=some x∧y=.str x:=by
 rw[List.getElem?_map] at h
 obtain⟨x,h1,h2⟩:=Option.map_eq_some_iff.mp h
 exact⟨x,h1,h2.symm⟩
theorem j8h {H:Hp}{p:Addr}{ss:List Str} (h:H p=some (.tup (ss.map V.str))):Rep H (.tup (ss.map D.str)) (.ref p):=Rep.tupI h (by
 clear h
 induction ss with
 | nil=>exact .nil
 | cons x r ih=>exact .cons .strI ih)
theorem j28 {H:Hp}{p:Addr}{ss:List Str} (h:H p=some (.lst (ss.map V.str))):Rep H (.lst (ss.map D.str)) (.ref p):=Rep.lstI h (by
 clear h
 induction ss with
 | nil=>exact .nil
 | cons x r ih=>exact .cons .strI ih)
theorem jor (ss:List Str):(D.tup (ss.map D.str)).fine=true:=by
 show D.fineL (ss.map D.str)=true
 induction ss with
 | nil=>rfl
 | cons x r ih=>exact ih
theorem depS (ss:List Str):D.depthL (ss.map D.str)=0:=by
 induction ss with
 | nil=>rfl
 | cons x r ih=>show max 0 (D.depthL (r.map D.str))=0;rw[ih];rfl
theorem nmS_ok {z:Str} (h:nmS z=true):PyData.strOk z=true:=by
 have h1:=j63 h
 unfold AscS at h1
 unfold PyData.strOk
 rw[Array.all_eq_true_iff_forall_mem] at h1 ⊢
 intro c hc
 have:=of_decide_eq_true (h1 c hc)
 exact decide_eq_true (by omega)
theorem jhm:∀ {ss:List Str},(∀ s∈ss,nmS s=true)→(D.lst (ss.map D.str)).eqOk=true
 | [],_=>rfl
 | x :: r,h=>by
  show (PyData.strOk x && D.eqOkL (r.map D.str))=true
  rw[nmS_ok (h x List.mem_cons_self),Bool.true_and]
  exact jhm (ss:=r) fun s hs=>h s (List.mem_cons_of_mem _ hs)
theorem jbr {ss:List Str} (h:∀ s∈ss,nmS s=true):eqD (.lst (ss.map D.str)) (.lst (ss.map D.str))=true:=SeqAt.eqv_refl _ (D.canLay _ (jhm h))
def ItemOk (H:Hp) (x:V):Prop:=∃ k,HasK H x k∧∀ z,x=.str z→AscS z∧z.length≤1000
theorem ItemOk.mono {H H':Hp}{x:V} (e:Ext H H') (h:ItemOk H x):ItemOk H' x:=by
 obtain⟨k,h1,h2⟩:=h
 exact⟨k,h1.mono e,h2⟩
theorem ItemOk.nm {H:Hp}{z:Str} (h:nmS z=true):ItemOk H (.str z):=⟨.str,rfl,fun y e=>by cases e;exact⟨j63 h,by have:=j8g h;omega⟩⟩
theorem ItemOk.flat {H:Hp}{x:V}{k:Kd} (h:HasK H x k) (n:∀ z,x≠.str z):ItemOk H x:=⟨k,h,fun z e=>(n z e).elim⟩
def NoNm (H:Hp) (v:V):Prop:=(∃ k,HasK H v k∧k≠.tup)∨(∃ p xs,v=.ref p∧H p=some (.tup xs)∧xs.length≤1000∧(∀ x∈xs,ItemOk H x)∧∃ x∈xs,nmV x=false)∨∃ (p:Addr) (ss:List Str),v=.ref p∧H p=some (.tup (ss.map V.str))∧ss.length≤1000∧(∀ s∈ss,nmS s=true)∧¬ ss.Nodup
def NoRow (H:Hp) (v:V):Prop:=NoNm H v∨∃ (p:Addr) (ss:List Str),v=.ref p∧H p=some (.tup (ss.map V.str))∧ss.length≤1000∧(∀ s∈ss,nmS s=true)∧ss.Nodup∧¬ (1≤ss.length∧ss.length≤8)
theorem NoNm.mono {H H':Hp}{v:V} (e:Ext H H') (h:NoNm H v):NoNm H' v:=by
 rcases h with⟨k,h1,h2⟩ | ⟨p,xs,h1,h2,h3,h4,h5⟩ | ⟨p,ss,h1,h2,h3⟩
 ·exact .inl ⟨k,h1.mono e,h2⟩
 ·exact .inr (.inl ⟨p,xs,h1,e _ _ h2,h3,fun x hx=>(h4 x hx).mono e,h5⟩)
 ·exact .inr (.inr ⟨p,ss,h1,e _ _ h2,h3⟩)
theorem NoRow.mono {H H':Hp}{v:V} (e:Ext H H') (h:NoRow H v):NoRow H' v:=by
 rcases h with h | ⟨p,ss,h1,h2,h3⟩
 ·exact .inl (h.mono e)
 ·exact .inr ⟨p,ss,h1,e _ _ h2,h3⟩
theorem NoRow.kind {H:Hp}{v:V}{k:Kd} (h:HasK H v k) (n:k≠.tup):NoRow H v:=.inl (.inl ⟨k,h,n⟩)
theorem jkn {z:Str}:AscS z↔∀ c∈z.cps.toList,c < 128:=by
 unfold AscS
 rw[Array.all_eq_true_iff_forall_mem]
 constructor
 ·intro h c hc
  exact of_decide_eq_true (h c (by simpa using hc))
 ·intro h c hc
  exact decide_eq_true (h c (by simpa using hc))
instance ascDec (z:Str):Decidable (AscS z):=decidable_of_iff (∀ c∈z.cps.toList,c < 128) jkn.symm
theorem ItemOk.str {H:Hp}{z:Str} (h:AscS z) (l:z.length≤1000):ItemOk H (.str z):=⟨.str,rfl,fun y e=>by cases e;exact⟨h,l⟩⟩
def beh (w:Str) (row:List Str):List Str:=if w∈row then row.filter (fun t=>!decide (t=w))++[w] else row.drop 1++[w]
theorem j75 {w:Str}{row:List Str} (h:row.Nodup) (hw:w∈row):(beh w row).Perm row:=by
 unfold beh
 rw[if_pos hw]
 exact (List.perm_append_singleton _ _).trans (jh8 h hw)
theorem j8i {w:Str}{row:List Str} (h:Names row) (hw:nmS w=true):Names (beh w row)∧(beh w row).length=row.length:=by
 by_cases c:w∈row
 ·exact⟨h.perm (j75 h.nd c),(j75 h.nd c).length_eq⟩
 ·match row,h,c with
  | [],h,_=>exact absurd h.lo (by decide)
  | x :: r,h,c =>
   have e:beh w (x :: r)=r++[w]:=by
    unfold beh
    rw[if_neg c]
    rfl
   have l:(r++[w]).length=(x :: r).length:=by simp
   rw[e]
   refine⟨⟨fun s hs=>?_,?_,by rw[l];exact h.lo,by rw[l];exact h.hi⟩,l⟩
   ·rcases List.mem_append.mp hs with hs | hs
    ·exact h.nm s (List.mem_cons_of_mem _ hs)
    ·rw[List.mem_singleton.mp hs];exact hw
   ·refine List.nodup_append.mpr ⟨(List.nodup_cons.mp h.nd).2,by simp,fun y hy z hz e=>?_⟩
    rw[List.mem_singleton.mp hz] at e
    exact c (e ▸ List.mem_cons_of_mem _ hy)
theorem jko (w:Str) (row:List Str):w∈beh w row:=by
 unfold beh
 split <;> simp
def cst (w:Str) (row:List Str):Int:=if w∈row then 0 else 1
theorem jh9 {w:Str}{row ss:List Str} (h:row.Nodup) (p:ss.Perm (beh w row)):((ss.filter fun t=>!decide (t∈row)).length:Int)=cst w row:=by
 rw[(p.filter _).length_eq]
 unfold cst
 by_cases c:w∈row
 ·rw[if_pos c]
  have:(beh w row).filter (fun t=>!decide (t∈row))=[]:=List.filter_eq_nil_iff.mpr fun t ht=>by
   have:=(j75 h c).mem_iff.mp ht
   simp[this]
  rw[this]
  rfl
 ·rw[if_neg c]
  unfold beh
  rw[if_neg c,List.filter_append]
  have:(row.drop 1).filter (fun t=>!decide (t∈row))=[]:=List.filter_eq_nil_iff.mpr fun t ht=>by
   have:=List.mem_of_mem_drop ht
   simp[this]
  rw[this,List.filter_cons,if_pos (by simp[c])]
  rfl
theorem jbs {ss:List Str}{i:Nat} (h:i≤ss.length):cutV (ss.map V.str) (some (i:Int)) none=(ss.drop i).map V.str:=by
 unfold cutV
 rw[HT.sIx_nat,HT.sIx_none,List.length_map,Nat.min_eq_left h,← List.map_drop,List.take_of_length_le (by rw[List.length_map,List.length_drop];exact Nat.le_refl _)]
theorem jkp {ss:List Str}{i:Nat} (h:i≤ss.length):cutV (ss.map V.str) none (some (i:Int))=(ss.take i).map V.str:=by
 unfold cutV
 rw[HT.sIx_none,HT.sIx_nat,List.length_map,Nat.min_eq_left h,List.drop_zero,Nat.sub_zero,List.map_take]
theorem jez {ss:List Str}{i:Nat} (h:i < ss.length):ss.getD i ⟨#[]⟩∈ss:=by rw[List.getD_eq_getElem?_getD,List.getElem?_eq_getElem h];exact List.getElem_mem h
def ltV:V→V→Bool
 | .str a,.str b=>decide (a.cps.toList < b.cps.toList)
 | _,_=>false
def okAt (xs:List V) (k:Nat):Prop:=nmV (xs.getD k .non)=true∧(0 < k→ltV (xs.getD (k-1) .non) (xs.getD k .non)=true)
def StT (H:Hp) (m:Int) (x:V) (b:Bool):Prop:=(b=false∧∃ k,HasK H x k∧k≠.tup)∨∃ (p:Addr) (xs:List V),x=.ref p∧H p=some (.tup xs)∧xs.length≤60∧(∀ y∈xs,ItemOk H y)∧(b=true↔(xs.length:Int)=m∧∀ k,k < xs.length→okAt xs k)
theorem StT.mono {H H':Hp}{m:Int}{x:V}{b:Bool} (e:Ext H H') (h:StT H m x b):StT H' m x b:=by
 rcases h with⟨h,k,h1,h2⟩ | ⟨p,xs,h1,h2,h3,h4,h5⟩
 ·exact .inl ⟨h,k,h1.mono e,h2⟩
 ·exact .inr ⟨p,xs,h1,e _ _ h2,h3,fun y hy=>(h4 y hy).mono e,h5⟩
def prS (ss qs:List Str) (w:Str):V:=if w∈qs then .int ((qs.filter fun t=>!decide (t∈ss)).length:Nat) else .non
def Swp (ss:List Str) (g w:Str) (L:List Str):Prop:=L.Perm (ss.filter (fun t=>!decide (t=g))++[w])∧sortedS L=true
theorem Swp.mem {ss L:List Str}{g w:Str} (h:Swp ss g w L):w∈L:=h.1.mem_iff.mpr (by simp)
theorem Swp.uniq {ss L M:List Str}{g w:Str} (h:Swp ss g w L) (k:Swp ss g w M):L=M:=j16 (h.1.trans k.1.symm) h.2 k.2
theorem Swp.len {ss L:List Str}{g w:Str} (h:Swp ss g w L):L.length≤ss.length+1:=by
 rw[h.1.length_eq,List.length_append]
 have:=List.length_filter_le (fun t=>!decide (t=g)) ss
 simp only[List.length_cons,List.length_nil]
 omega
theorem Swp.price {ss L:List Str}{g w:Str} (h:Swp ss g w L) (hw:w∉ss):(L.filter fun t=>!decide (t∈ss)).length=1:=by
 rw[(h.1.filter _).length_eq,List.filter_append]
 have:(ss.filter fun t=>!decide (t=g)).filter (fun t=>!decide (t∈ss))=[]:=List.filter_eq_nil_iff.mpr fun t ht=>by
  have:=(List.mem_filter.mp ht).1
  simp[this]
 rw[this,List.filter_cons,if_pos (by simp[hw])]
 rfl
theorem Swp.inj {ss L:List Str}{g g' w:Str} (h:Swp ss g w L) (k:Swp ss g' w L) (hg:g∈ss) (hw:w∉ss):g=g':=by
 refine Classical.byContradiction fun q=>?_
 have h1:g∈L:=k.1.mem_iff.mpr (List.mem_append_left _ (List.mem_filter.mpr ⟨hg,by simp[q]⟩))
 rcases List.mem_append.mp (h.1.mem_iff.mp h1) with z | z
 ·have:=(List.mem_filter.mp z).2
  simp at this
 ·exact hw (List.mem_singleton.mp z ▸ hg)
def GoS (ss:List Str) (w:Str) (L:List Str):Prop:=(w∈ss∧L=ss)∨(w∉ss∧∃ g,g∈ss∧Swp ss g w L)
theorem GoS.len {ss L:List Str}{w:Str} (nd:ss.Nodup) (h:GoS ss w L):L.length=ss.length:=by
 rcases h with⟨_,rfl⟩ | ⟨_,g,hg,hs⟩
 ·rfl
 ·have e:ss.filter (fun t=>!decide (t=g))=ss.erase g:=by
   rw[nd.erase_eq_filter]
   exact List.filter_congr fun t _=>by simp[bne,BEq.beq]
  rw[hs.1.length_eq,List.length_append,e,List.length_erase_of_mem hg]
  have:0 < ss.length:=List.length_pos_of_mem hg
  simp only[List.length_cons,List.length_nil]
  omega
def prL (ss L:List Str):List Str × Int:=(L,((L.filter fun t=>!decide (t∈ss)).length:Nat))
theorem PairsHT.keep {H H':Hp} (e:Kp H H') {vs:List V}{Ks:List (List Str × Int)} (r:PairsHT H vs Ks):PairsHT H' vs Ks:=by
 induction r with
 | nil=>exact .nil
 | cons x y _ ih=>exact .cons (e _ _ x rfl) (e _ _ y rfl) ih
theorem PairsHT.snoc {H:Hp}{c a:Addr}{L:List Str}{x:Int} (hc:H c=some (.tup [.ref a,.int x])) (ha:H a=some (.tup (L.map V.str))) {vs:List V}{Ks:List (List Str × Int)} (r:PairsHT H vs Ks):PairsHT H (vs++[.ref c]) (Ks++[(L,x)]):=by
 induction r with
 | nil=>exact .cons hc ha .nil
 | cons x y _ ih=>exact .cons x y ih
theorem PairsHT.get {H:Hp}{vs:List V}{Ks:List (List Str × Int)} (r:PairsHT H vs Ks):∀ (i:Nat) (v:V),vs[i]?=some v→∃ c a,v=.ref c∧H c=some (.tup [.ref a,.int (Ks.getD i ([],0)).2])∧H a=some (.tup ((Ks.getD i ([],0)).1.map V.str)):=by
 induction r with
 | nil=>exact fun i v h=>by simp at h
 | cons x y _ ih =>
  intro i v h
  cases i with
  | zero=>simp at h;subst h;exact⟨_,_,rfl,by simpa using x,by simpa using y⟩
  | succ i=>simpa using ih i v (by simpa using h)
theorem PairsHT.but {H H':Hp}{x:Addr}{zs:List V} (hx:H x=some (.lst zs)) (b:But x H H') {vs:List V}{Ks:List (List Str × Int)} (r:PairsHT H vs Ks):PairsHT H' vs Ks:=by
 induction r with
 | nil=>exact .nil
 | cons c d _ ih=>exact .cons (b _ _ (fun z=>by rw[z,hx] at c;cases c) c) (b _ _ (fun z=>by rw[z,hx] at d;cases d) d) ih
theorem RefsHT.keep {H H':Hp} (e:Kp H H') {vs:List V}{Ls:List (List Str)} (r:RefsHT H vs Ls):RefsHT H' vs Ls:=by
 induction r with
 | nil=>exact .nil
 | cons x _ ih=>exact .cons (e _ _ x rfl) ih
theorem RefsHT.snoc {H H':Hp}{a:Addr}{L:List Str} (e:Ext H H') (ha:H' a=some (.tup (L.map V.str))) {vs:List V}{Ls:List (List Str)} (r:RefsHT H vs Ls):RefsHT H' (vs++[.ref a]) (Ls++[L]):=by
 induction r with
 | nil=>exact .cons ha .nil
 | cons x _ ih=>exact .cons (e _ _ x) ih
theorem jdt:∀ {a b:List (List Str)},a.Pairwise (fun x y=>cpm x < cpm y)→b.Pairwise (fun x y=>cpm x < cpm y)→(∀ L,L∈a↔L∈b)→a=b:=fun {a b} ha hb h=>by
 have nd:∀ {l:List (List Str)},l.Pairwise (fun x y=>cpm x < cpm y)→l.Nodup:=fun h=>h.imp fun z e=>by rw[e] at z;exact List.lt_irrefl _ z
 have p:a.Perm b:=(List.perm_ext_iff_of_nodup (nd ha) (nd hb)).mpr h
 exact List.Perm.eq_of_pairwise (le:=fun x y:List Str=>cpm x < cpm y) (fun x y _ _ h1 h2=>absurd (List.lt_trans h1 h2) (List.lt_irrefl _)) ha hb p
theorem j8j:∀ (Ls:List (List Str)),∃ Ms:List (List Str),Ms.Pairwise (fun a b=>cpm a < cpm b)∧∀ L,L∈Ms↔L∈Ls
 | []=>⟨[],.nil,fun L=>Iff.rfl⟩
 | x :: r=>by
  obtain⟨Ms,pw,hm⟩:=j8j r
  by_cases hx:x∈Ms
  ·refine⟨Ms,pw,fun L=>?_⟩
   rw[hm,List.mem_cons]
   exact⟨.inr,fun h=>h.elim (fun e=>e ▸ (hm x).mp hx) id⟩
  ·refine⟨Ms.filter (fun y=>decide (cpm y < cpm x))++x :: Ms.filter (fun y=>decide (cpm x < cpm y)),?_,fun L=>?_⟩
   ·refine List.pairwise_append.mpr ⟨pw.sublist List.filter_sublist,List.pairwise_cons.mpr ⟨fun y hy=>of_decide_eq_true (List.mem_filter.mp hy).2,pw.sublist List.filter_sublist⟩,fun a ha b hb=>?_⟩
    have h1:=of_decide_eq_true (List.mem_filter.mp ha).2
    rcases List.mem_cons.mp hb with rfl | hb
    ·exact h1
    ·exact List.lt_trans h1 (of_decide_eq_true (List.mem_filter.mp hb).2)
   ·rw[List.mem_append,List.mem_cons,List.mem_cons,List.mem_filter,List.mem_filter,← hm]
    constructor
    ·rintro (⟨h,_⟩ | h | ⟨h,_⟩)
     ·exact .inr h
     ·exact .inl h
     ·exact .inr h
    ·rintro (h | h)
     ·exact .inr (.inl h)
     ·by_cases c:cpm L < cpm x
      ·exact .inl ⟨h,decide_eq_true c⟩
      ·by_cases c2:cpm x < cpm L
       ·exact .inr (.inr ⟨h,decide_eq_true c2⟩)
       ·exact absurd (jb1 (List.le_antisymm (List.not_lt.mp c2) (List.not_lt.mp c)) ▸ h) hx
theorem j64:∀ {l:List Str},(l.Pairwise fun a b=>¬ b.cps.toList < a.cps.toList)→sortedS l=true
 | [],_=>rfl
 | x :: r,h=>by
  have key:∀ (p:Str) (l:List Str),((p :: l).Pairwise fun a b=>¬ b.cps.toList < a.cps.toList)→risingS p l=true:=by
   intro p l
   induction l generalizing p with
   | nil=>intro _;rfl
   | cons y r ih =>
    intro h
    obtain⟨h1,h2⟩:=List.pairwise_cons.mp h
    show (!ltCps y.cps.toList p.cps.toList && risingS y r)=true
    rw[ih y h2,ltCps_eq,Bool.and_true]
    simpa using h1 y List.mem_cons_self
  exact key x r h
theorem jbt (l:List Str):∃ L:List Str,L.Perm l∧sortedS L=true:=by
 refine⟨l.mergeSort fun a b=>!decide (b.cps.toList < a.cps.toList),List.mergeSort_perm _ _,?_⟩
 refine j64 (List.Pairwise.imp (fun h=>?_) (List.pairwise_mergeSort (le:=fun a b:Str=>!decide (b.cps.toList < a.cps.toList)) (fun a b c h1 h2=>?_) (fun a b=>?_) l))
 ·simpa using h
 ·simp only[Bool.not_eq_true',decide_eq_false_iff_not] at *
  exact List.not_lt.mpr (List.le_trans (List.not_lt.mp h1) (List.not_lt.mp h2))
 ·by_cases c:b.cps.toList < a.cps.toList
  ·have:¬ a.cps.toList < b.cps.toList:=fun z=>List.lt_irrefl _ (List.lt_trans c z)
   simp[this]
  ·simp[c]
theorem jot {ss:List Str} (w:Str):∃ Ms:List (List Str),Ms.Pairwise (fun a b=>cpm a < cpm b)∧∀ L,L∈Ms↔GoS ss w L:=by
 by_cases hw:w∈ss
 ·refine⟨[ss],List.pairwise_singleton _ _,fun L=>?_⟩
  rw[List.mem_singleton]
  exact⟨fun z=>.inl ⟨hw,z⟩,fun z=>z.elim (fun y=>y.2) fun y=>absurd hw y.1⟩
 ·have:∃ Ls:List (List Str),∀ L,L∈Ls↔∃ g,g∈ss∧Swp ss g w L:=by
   have:∀ gs:List Str,∃ Ls:List (List Str),∀ L,L∈Ls↔∃ g,g∈gs∧Swp ss g w L:=by
    intro gs
    induction gs with
    | nil=>exact⟨[],fun L=>⟨fun h=>(by cases h),fun⟨g,h,_⟩=>(by cases h)⟩⟩
    | cons g gs ih =>
     obtain⟨Ls,h⟩:=ih
     obtain⟨M,m1,m2⟩:=jbt (ss.filter (fun t=>!decide (t=g))++[w])
     refine⟨M :: Ls,fun L=>?_⟩
     rw[List.mem_cons,h]
     constructor
     ·rintro (rfl | ⟨g',h1,h2⟩)
      ·exact⟨g,List.mem_cons_self,m1,m2⟩
      ·exact⟨g',List.mem_cons_of_mem _ h1,h2⟩
     ·rintro⟨g',h1,h2⟩
      rcases List.mem_cons.mp h1 with rfl | h1
      ·exact .inl (h2.uniq ⟨m1,m2⟩)
      ·exact .inr ⟨g',h1,h2⟩
   exact this ss
  obtain⟨Ls,h⟩:=this
  obtain⟨Ms,pw,hm⟩:=j8j Ls
  refine⟨Ms,pw,fun L=>?_⟩
  rw[hm,h]
  exact⟨fun z=>.inr ⟨hw,z⟩,fun z=>z.elim (fun y=>absurd y.1 hw) fun y=>y.2⟩
noncomputable def mvS (w:Str) (ss:List Str):List (List Str × Int):=(Classical.choose (jot (ss:=ss) w)).map (prL ss)
theorem mvS_is {w:Str}{ss:List Str}{Ms:List (List Str)} (pw:Ms.Pairwise (fun a b=>cpm a < cpm b)) (hm:∀ L,L∈Ms↔GoS ss w L):mvS w ss=Ms.map (prL ss):=by
 obtain⟨h1,h2⟩:=Classical.choose_spec (jot (ss:=ss) w)
 unfold mvS
 rw[jdt h1 pw fun L=>by rw[h2,hm]]
theorem j4b {w:Str}{ss:List Str}{m:List Str × Int}:m∈mvS w ss↔GoS ss w m.1∧m.2=((m.1.filter fun t=>!decide (t∈ss)).length:Nat):=by
 obtain⟨h1,h2⟩:=Classical.choose_spec (jot (ss:=ss) w)
 unfold mvS
 constructor
 ·intro h
  obtain⟨L,hL,rfl⟩:=List.mem_map.mp h
  exact⟨(h2 L).mp hL,rfl⟩
 ·rintro⟨g,e⟩
  exact List.mem_map.mpr ⟨m.1,(h2 _).mpr g,by unfold prL;rw[← e]⟩
structure StP (pool:List Str) (k:Nat) (L:List Str):Prop where
 so:sortedS L=true
 nd:L.Nodup
 ln:L.length=k
 sub:∀ s∈L,s∈pool
theorem StP.go {pool ss L:List Str}{k:Nat}{w:Str} (h:StP pool k ss) (hw:w∈pool) (g:GoS ss w L):StP pool k L:=by
 rcases g with⟨_,rfl⟩ | ⟨nw,x,hx,hs⟩
 ·exact h
 ·have nf:(ss.filter fun t=>!decide (t=x)).Nodup:=h.nd.sublist List.filter_sublist
  have na:(ss.filter (fun t=>!decide (t=x))++[w]).Nodup:=List.nodup_append.mpr ⟨nf,by simp,fun a ha b hb=>by
   rw[List.mem_singleton.mp hb]
   exact fun z=>nw (z ▸ (List.mem_filter.mp ha).1)⟩
  refine⟨hs.2,hs.1.nodup_iff.mpr na,?_,fun s hs'=>?_⟩
  ·rw[GoS.len h.nd (.inr ⟨nw,x,hx,hs⟩),h.ln]
  ·rcases List.mem_append.mp (hs.1.mem_iff.mp hs') with q | q
   ·exact h.sub s (List.mem_filter.mp q).1
   ·rw[List.mem_singleton.mp q];exact hw
theorem jbu {α:Type} [DecidableEq α] {pool:List α} (l:List α) (nd:l.Nodup) (h:∀ x∈l,x∈pool):l.length≤pool.length:=by
 have nm:(l.map fun x=>pool.idxOf x).Nodup:=by
  refine List.pairwise_map.mpr (List.Pairwise.imp_of_mem (fun {a b} ha hb q z=>q ?_) nd)
  have ea:=List.getElem_idxOf (List.idxOf_lt_length_iff.mpr (h a ha))
  have eb:=List.getElem_idxOf (List.idxOf_lt_length_iff.mpr (h b hb))
  rw[← ea,← eb]
  simp only[z]
 have:=j8e pool.length (l.map fun x=>pool.idxOf x) nm fun x hx=>by
  obtain⟨y,hy,rfl⟩:=List.mem_map.mp hx
  exact List.idxOf_lt_length_iff.mpr (h y hy)
 rwa [List.length_map] at this
def jf0 (pool L:List Str):Str:=(pool.find? fun t=>!decide (t∈L)).getD ⟨#[]⟩
theorem j4x {pool L:List Str}{k:Nat} (pn:pool.Nodup) (pl:pool.length=k+1) (h:StP pool k L):jf0 pool L∈pool∧jf0 pool L∉L∧∀ t∈pool,t∉L→t=jf0 pool L:=by
 have ex:∃ t∈pool,t∉L:=Classical.byContradiction fun q=>by
  have:=jbu (pool:=L) pool pn fun x hx=>Classical.byContradiction fun z=>q ⟨x,hx,z⟩
  have:=h.ln
  omega
 have uniq:∀ s t,s∈pool→t∈pool→s∉L→t∉L→s=t:=fun s t hs ht ns nt=>Classical.byContradiction fun ne=>by
  have h1:=jbu (pool:=pool) (s :: t :: L) (List.nodup_cons.mpr ⟨by simp[ne,ns],List.nodup_cons.mpr ⟨nt,h.nd⟩⟩) fun x hx=>by
   rcases List.mem_cons.mp hx with rfl | hx
   ·exact hs
   ·rcases List.mem_cons.mp hx with rfl | hx
    ·exact ht
    ·exact h.sub x hx
  have h2:=h.ln
  rw[List.length_cons,List.length_cons] at h1
  omega
 obtain⟨t,ht,nt⟩:=ex
 obtain⟨x,hx⟩:∃ x,pool.find? (fun t=>!decide (t∈L))=some x:=by
  cases q:pool.find? (fun t=>!decide (t∈L)) with
  | some x=>exact⟨x,rfl⟩
  | none =>
   have:=List.find?_eq_none.mp q t ht
   simp[nt] at this
 have e:jf0 pool L=x:=by unfold jf0;rw[hx];rfl
 have h1:=List.mem_of_find?_eq_some hx
 have h2:x∉L:=by have:=List.find?_some hx;simpa using this
 rw[e]
 exact⟨h1,h2,fun s hs ns=>uniq s x hs h1 ns h2⟩
theorem jha {pool L M:List Str}{k:Nat} (pn:pool.Nodup) (pl:pool.length=k+1) (h:StP pool k L) (g:StP pool k M) (e:jf0 pool L=jf0 pool M):L=M:=by
 obtain⟨l1,l2,l3⟩:=j4x pn pl h
 obtain⟨m1,m2,m3⟩:=j4x pn pl g
 refine j16 ((List.perm_ext_iff_of_nodup h.nd g.nd).mpr fun t=>⟨fun ht=>Classical.byContradiction fun z=>?_,fun ht=>Classical.byContradiction fun z=>?_⟩) h.so g.so
 ·have:=m3 t (h.sub t ht) z
  rw[this,← e] at ht
  exact l2 ht
 ·have:=l3 t (g.sub t ht) z
  rw[this,e] at ht
  exact m2 ht
theorem jkq {pool:List Str}{k:Nat} (pn:pool.Nodup) (pl:pool.length=k+1) {Ls:List (List Str)} (nd:Ls.Nodup) (h:∀ L∈Ls,StP pool k L):Ls.length≤k+1:=by
 have:=jbu (pool:=pool) (Ls.map (jf0 pool)) (List.pairwise_map.mpr (List.Pairwise.imp_of_mem (fun {a b} ha hb q z=>q (jha pn pl (h a ha) (h b hb) z)) nd)) fun x hx=>by
  obtain⟨L,hL,rfl⟩:=List.mem_map.mp hx
  exact (j4x pn pl (h L hL)).1
 rw[List.length_map,pl] at this
 exact this
section
variable {P:List Str}{k:Nat}
def pgK (P:List Str) (k i:Nat):Str:=P.getD (i % (k+1)) ⟨#[]⟩
def wsK (P:List Str) (k i:Nat):Str:=pgK P k (i+k)
def rowK (P:List Str) (k i:Nat):List Str:=(List.range k).map fun j=>pgK P k (i+j)
theorem mod_ne {a b n:Nat} (h1:a < b) (h2:b-a < n):b % n≠a % n:=fun z=>by
 have:=Nat.sub_mod_eq_zero_of_mod_eq z
 rw[Nat.mod_eq_of_lt h2] at this
 omega
theorem jow (pl:P.length=k+1) (i:Nat):i % (k+1) < P.length:=by rw[pl];exact Nat.mod_lt _ (by omega)
theorem jox (pl:P.length=k+1) (i:Nat):pgK P k i∈P:=jez (jow pl i)
theorem jhn (pn:P.Nodup) (pl:P.length=k+1) {a b:Nat} (h1:a < b) (h2:b-a≤k):pgK P k b≠pgK P k a:=fun z=>by
 unfold pgK at z
 have ha:=jow pl a
 have hb:=jow pl b
 rw[List.getD_eq_getElem?_getD,List.getD_eq_getElem?_getD,List.getElem?_eq_getElem ha,List.getElem?_eq_getElem hb,Option.getD_some,Option.getD_some] at z
 exact mod_ne (n:=k+1) h1 (by omega) ((List.getElem_inj pn).mp z)
theorem jhb (i:Nat):pgK P k (i+(k+1))=pgK P k i:=by unfold pgK;rw[Nat.add_mod_right]
theorem j0t (i:Nat):(rowK P k i).length=k:=by simp[rowK]
theorem j29 (pl:P.length=k+1):rowK P k 0=P.take k:=by
 refine List.ext_getElem (by rw[j0t,List.length_take];omega) fun j h1 h2=>?_
 rw[j0t] at h1
 simp only[rowK,List.getElem_map,List.getElem_range,List.getElem_take,pgK,Nat.zero_add]
 rw[Nat.mod_eq_of_lt (by omega),List.getD_eq_getElem?_getD,List.getElem?_eq_getElem (by omega),Option.getD_some]
theorem j8k (k1:1≤k) (i:Nat):rowK P k (i+1)=(rowK P k i).drop 1++[wsK P k i]:=by
 refine List.ext_getElem (by rw[j0t,List.length_append,List.length_drop,j0t];simp;omega) fun j h1 h2=>?_
 rw[j0t] at h1
 rw[List.getElem_append]
 split
 ·rename_i q
  rw[List.length_drop,j0t] at q
  simp only[rowK,List.getElem_map,List.getElem_range,List.getElem_drop]
  rw[show i+1+j=i+(1+j) by omega]
 ·rename_i q
  rw[List.length_drop,j0t] at q
  simp only[rowK,List.getElem_map,List.getElem_range,List.getElem_singleton,wsK]
  rw[show i+1+j=i+k by omega]
theorem j65 (pl:P.length=k+1) (i:Nat):wsK P k i∈P:=jox pl _
theorem j8l (pn:P.Nodup) (pl:P.length=k+1) (i:Nat):wsK P k i∉rowK P k i:=fun h=>by
 obtain⟨j,hj,e⟩:=List.mem_map.mp h
 have hj:=List.mem_range.mp hj
 exact jhn pn pl (show i+j < i+k by omega) (by omega) e.symm
theorem jf1 (pl:P.length=k+1) (i:Nat):∀ s∈rowK P k i,s∈P:=fun s h=>by
 obtain⟨j,_,rfl⟩:=List.mem_map.mp h
 exact jox pl _
theorem jf2 (pn:P.Nodup) (pl:P.length=k+1) (i:Nat):(rowK P k i).Nodup:=by
 refine List.pairwise_map.mpr (List.Pairwise.imp_of_mem (fun {a b} ha hb q z=>?_) (List.nodup_range (n:=k)))
 have ha:=List.mem_range.mp ha
 have hb:=List.mem_range.mp hb
 rcases Nat.lt_or_gt_of_ne q with q | q
 ·exact jhn pn pl (show i+a < i+b by omega) (by omega) z.symm
 ·exact jhn pn pl (show i+b < i+a by omega) (by omega) z
theorem j76 (pn:P.Nodup) (pl:P.length=k+1) (k1:1≤k) (i:Nat):beh (wsK P k i) (rowK P k i)=rowK P k (i+1)∧cst (wsK P k i) (rowK P k i)=1:=by
 unfold beh cst
 rw[if_neg (j8l pn pl i),if_neg (j8l pn pl i),j8k k1]
 exact⟨rfl,rfl⟩
theorem jhc (pn:P.Nodup) (pl:P.length=k+1) (i:Nat) {ss:List Str} (pm:ss.Perm (rowK P k i)) (so:sortedS ss=true):(P.filter fun t=>!decide (t∈ss))≠[]∧(P.filter fun t=>!decide (t∈ss)).headD ⟨#[]⟩=wsK P k i:=by
 have st:StP P k ss:=⟨so,pm.nodup_iff.mpr (jf2 pn pl i),by rw[pm.length_eq,j0t],fun s hs=>jf1 pl i s (pm.mem_iff.mp hs)⟩
 obtain⟨_,_,l3⟩:=j4x pn pl st
 have hw:wsK P k i∉ss:=fun z=>j8l pn pl i (pm.mem_iff.mp z)
 have e1:=l3 _ (j65 pl i) hw
 have mem:wsK P k i∈P.filter fun t=>!decide (t∈ss):=List.mem_filter.mpr ⟨j65 pl i,by simp[hw]⟩
 have ne:(P.filter fun t=>!decide (t∈ss))≠[]:=fun z=>by rw[z] at mem;cases mem
 refine⟨ne,?_⟩
 cases hf:P.filter fun t=>!decide (t∈ss) with
 | nil=>exact (ne hf).elim
 | cons y r =>
  have hy:y∈P.filter fun t=>!decide (t∈ss):=by rw[hf];exact List.mem_cons_self
  obtain⟨y1,y2⟩:=List.mem_filter.mp hy
  have:=l3 y y1 (by simpa using y2)
  show y=_
  rw[this,e1]
def lkK (k:Nat):Nat→Nat
 | 0=>k
 | i+1=>i-i % k+k-1
def stK (P:List Str) (k i:Nat):List Str:=P.filter fun t=>!decide (t=pgK P k (lkK k i))
theorem j2i {l m:List Str} (h:sortedS l=true) (s:m.Sublist l):sortedS m=true:=j64 (List.Pairwise.sublist s (j3j h))
theorem j4c {i:Nat}{t:Str}:t∈stK P k i↔t∈P∧t≠pgK P k (lkK k i):=by
 unfold stK
 rw[List.mem_filter]
 simp
theorem jhd (pn:P.Nodup) (i:Nat):(stK P k i).Nodup:=pn.sublist List.filter_sublist
theorem j4y (k1:1≤k) (j:Nat):((j+1) % k=0∧j % k=k-1)∨(j+1) % k=j % k+1:=by
 have h:=Nat.mod_lt j k1
 have e:=Nat.div_add_mod j k
 have e2:(j+1) % k=(j % k+1) % k:=(Nat.mod_add_mod j k 1).symm
 by_cases q:j % k+1=k
 ·left
  rw[e2,q,Nat.mod_self]
  exact⟨rfl,by omega⟩
 ·right
  rw[e2,Nat.mod_eq_of_lt (by omega)]
theorem lk_hit (k1:1≤k) {i:Nat} (h:i % k=0):pgK P k (lkK k i)=wsK P k i:=by
 cases i with
 | zero=>show pgK P k k=pgK P k (0+k);rw[Nat.zero_add]
 | succ j =>
  rcases j4y k1 j with⟨_,q⟩ | q
  ·have e:=Nat.mod_le j k
   show pgK P k (j-j % k+k-1)=pgK P k (j+1+k)
   rw[q,show j+1+k=j+(k+1) by omega,jhb,show j-(k-1)+k-1=j by omega]
  ·omega
theorem jkr (k1:1≤k) {i:Nat} (h:i % k≠0):lkK k (i+1)=lkK k i∧lkK k i=i-i % k+k-1:=by
 cases i with
 | zero=>exact absurd (Nat.zero_mod k) h
 | succ j =>
  rcases j4y k1 j with⟨q,_⟩ | q
  ·exact absurd q h
  ·have e:lkK k (j+1)=j-j % k+k-1:=rfl
   have e':lkK k (j+1+1)=j+1-(j+1) % k+k-1:=rfl
   have:=Nat.mod_le j k
   have:=Nat.mod_le (j+1) k
   omega
theorem stK_go (pn:P.Nodup) (pl:P.length=k+1) (ps:sortedS P=true) (k1:1≤k) (i:Nat):(stK P k (i+1),(if i % k=0 then (1:Int) else 0))∈mvS (wsK P k i) (stK P k i):=by
 have hwP:=j65 pl i
 rw[j4b]
 by_cases h:i % k=0
 ·have hh:=lk_hit (P:=P) k1 h
  have nw:wsK P k i∉stK P k i:=fun z=>(j4c.mp z).2 hh.symm
  have el:lkK k (i+1)=i+k-1:=by show i-i % k+k-1=_;rw[h];omega
  have ng:pgK P k (i+k)≠pgK P k (i+k-1):=jhn pn pl (by omega) (by omega)
  have hg:pgK P k (lkK k (i+1))∈stK P k i:=j4c.mpr ⟨jox pl _,by rw[hh,el];exact fun z=>ng z.symm⟩
  have sw:Swp (stK P k i) (pgK P k (lkK k (i+1))) (wsK P k i) (stK P k (i+1)):=by
   refine⟨(List.perm_ext_iff_of_nodup (jhd pn _) ?_).mpr fun t=>?_,j2i ps List.filter_sublist⟩
   ·refine List.nodup_append.mpr ⟨(jhd pn i).sublist List.filter_sublist,by simp,fun a ha b hb=>?_⟩
    rw[List.mem_singleton.mp hb]
    exact fun z=>nw (z ▸ (List.mem_filter.mp ha).1)
   ·rw[List.mem_append,List.mem_filter,List.mem_singleton,j4c,j4c,hh]
    constructor
    ·rintro⟨a,b⟩
     by_cases c:t=wsK P k i
     ·exact .inr c
     ·exact .inl ⟨⟨a,c⟩,by simp[b]⟩
    ·rintro (⟨⟨a,b⟩,c⟩ | rfl)
     ·exact⟨a,by simpa using c⟩
     ·exact⟨hwP,by rw[el];exact ng⟩
  refine⟨.inr ⟨nw,_,hg,sw⟩,?_⟩
  show (if i % k=0 then (1:Int) else 0)=_
  rw[if_pos h]
  have:=sw.price nw
  show (1:Int)=(((stK P k (i+1)).filter fun t=>!decide (t∈stK P k i)).length:Nat)
  omega
 ·obtain⟨e1,e2⟩:=jkr k1 h
  have es:stK P k (i+1)=stK P k i:=by unfold stK;rw[e1]
  have hk:=Nat.mod_lt i k1
  have hi:=Nat.mod_le i k
  have hw:wsK P k i∈stK P k i:=j4c.mpr ⟨hwP,by rw[e2];exact jhn pn pl (by omega) (by omega)⟩
  refine⟨.inl ⟨hw,es⟩,?_⟩
  show (if i % k=0 then (1:Int) else 0)=(((stK P k (i+1)).filter fun t=>!decide (t∈stK P k i)).length:Nat)
  have:(stK P k (i+1)).filter (fun t=>!decide (t∈stK P k i))=[]:=List.filter_eq_nil_iff.mpr fun t ht=>by
   rw[es] at ht
   simp[ht]
  rw[if_neg h,this]
  rfl
def csK (k:Nat):Nat→Int
 | 0=>0
 | i+1=>csK k i+if i % k=0 then 1 else 0
theorem jks (k1:1≤k):∀ i,csK k (i+1)=((i / k:Nat):Int)+1
 | 0=>by
  show csK k 0+(if 0 % k=0 then (1:Int) else 0)=_
  rw[Nat.zero_mod,if_pos rfl,Nat.zero_div]
  rfl
 | i+1=>by
  have ih:=jks k1 i
  show csK k (i+1)+(if (i+1) % k=0 then (1:Int) else 0)=_
  have d1:=Nat.div_add_mod i k
  have d2:=Nat.div_add_mod (i+1) k
  rcases j4y k1 i with⟨q,p⟩ | q
  ·rw[if_pos q,ih]
   have:k * ((i+1) / k)=k * (i / k+1):=by rw[Nat.mul_add];omega
   have:=Nat.eq_of_mul_eq_mul_left k1 this
   omega
  ·rw[if_neg (by omega),ih]
   have:k * ((i+1) / k)=k * (i / k):=by omega
   have:=Nat.eq_of_mul_eq_mul_left k1 this
   omega
theorem csK_le (k1:1≤k) (m:Nat) (m1:1≤m):(k:Int) * csK k m≤(m:Int)+k-1:=by
 obtain⟨i,rfl⟩:∃ i,m=i+1:=⟨m-1,by omega⟩
 rw[jks k1]
 have:k * (i / k)≤i:=Nat.mul_div_le i k
 have h2:((k * (i / k):Nat):Int)=(k:Int) * ((i / k:Nat):Int):=Int.natCast_mul k (i / k)
 rw[Int.mul_add,Int.mul_one]
 omega
theorem wayK (pn:P.Nodup) (pl:P.length=k+1) (ps:sortedS P=true) (k1:1≤k):∀ m,WayR (stK P k 0) (((List.range m).map (wsK P k)).map mvS) ((List.range m).map fun i=>stK P k (i+1)) (csK k m)∧j1f (stK P k 0) ((List.range m).map fun i=>stK P k (i+1))=stK P k m
 | 0=>⟨.nil,rfl⟩
 | m+1=>by
  obtain⟨h1,h2⟩:=wayK pn pl ps k1 m
  rw[List.range_succ,List.map_append,List.map_append,List.map_append]
  refine⟨j74 h1 ?_,j1l _ _ _⟩
  rw[h2]
  exact stK_go pn pl ps k1 m
theorem j4z (pn:P.Nodup) (pl:P.length=k+1) {ss:List Str} (ps:sortedS P=true) (pm:ss.Perm (P.take k)) (so:sortedS ss=true):ss=stK P k 0:=by
 refine j16 ((List.perm_ext_iff_of_nodup (pm.nodup_iff.mpr (pn.sublist (List.take_sublist _ _))) (jhd pn 0)).mpr fun t=>?_) so (j2i ps List.filter_sublist)
 have ek:pgK P k k=P[k]'(by omega):=by
  unfold pgK
  rw[Nat.mod_eq_of_lt (by omega),List.getD_eq_getElem?_getD,List.getElem?_eq_getElem (by omega),Option.getD_some]
 have eP:P=P.take k++[P[k]'(by omega)]:=by
  have:=List.take_append_drop k P
  rw[List.drop_eq_getElem_cons (by omega),List.drop_eq_nil_of_le (by omega)] at this
  exact this.symm
 have nt:P[k]'(by omega)∉P.take k:=fun z=>by
  have:=pn
  rw[eP] at this
  exact (List.nodup_append.mp this).2.2 _ z _ (List.mem_singleton.mpr rfl) rfl
 rw[pm.mem_iff,j4c]
 show t∈P.take k↔t∈P∧t≠pgK P k k
 rw[ek]
 constructor
 ·exact fun h=>⟨List.mem_of_mem_take h,fun z=>nt (z ▸ h)⟩
 ·rintro⟨a,b⟩
  rw[eP] at a
  rcases List.mem_append.mp a with a | a
  ·exact a
  ·exact absurd (List.mem_singleton.mp a) b
end
def jbv:List Str→List (List Str)→Int
 | _,[]=>0
 | s,t :: r=>((t.filter fun x=>!decide (x∈s)).length:Nat)+jbv t r
theorem jhe {ws:List Str}{st:List Str}{Ys:List (List Str)}{c:Int} (h:WayR st (ws.map mvS) Ys c):jbv st Ys=c:=by
 induction ws generalizing st Ys c with
 | nil=>cases h;rfl
 | cons w ws ih =>
  rw[List.map_cons] at h
  cases h with
  | cons hm hr =>
   have e:=(j4b.mp hm).2
   dsimp only at e
   show _+jbv _ _=_
   rw[ih hr,e]
theorem way_ok {pool ws st:List Str}{k:Nat}{Ys:List (List Str)}{c:Int} (h:WayR st (ws.map mvS) Ys c) (hs:StP pool k st) (hw:∀ x∈ws,x∈pool):∀ (i:Nat) (w:Str) (Y:List Str),ws[i]?=some w→Ys[i]?=some Y→StP pool k Y∧w∈Y:=by
 induction ws generalizing st Ys c with
 | nil=>intro i w Y h;simp at h
 | cons w ws ih =>
  rw[List.map_cons] at h
  cases h with
  | cons hm hr =>
   have g:=(j4b.mp hm).1
   have s1:=hs.go (hw w List.mem_cons_self) g
   intro i w' Y h1 h2
   cases i with
   | zero =>
    simp at h1 h2
    subst h1 h2
    refine⟨s1,?_⟩
    rcases g with⟨a,b⟩ | ⟨_,x,_,sw⟩
    ·dsimp only at b
     rw[b]
     exact a
    ·exact sw.mem
   | succ i=>exact ih hr s1 (fun x hx=>hw x (List.mem_cons_of_mem _ hx)) i w' Y (by simpa using h1) (by simpa using h2)
def nmsK:List Str:=["a","b","c","d","e","f","g","h","i"]
theorem j1w (k:Nat) (h:k≤8):(nmsK.take (k+1)).Nodup∧(nmsK.take (k+1)).length=k+1∧sortedS (nmsK.take (k+1))=true∧(∀ s∈nmsK.take (k+1),nmS s=true)∧(nmsK.take (k+1)).take k=nmsK.take k:=by
 have l:nmsK.length=9:=rfl
 refine⟨List.Nodup.sublist (List.take_sublist _ _) (by decide),by rw[List.length_take];omega,j2i (by decide) (List.take_sublist _ _),fun s hs=>?_,by rw[List.take_take];congr 1;omega⟩
 have:∀ s∈nmsK,nmS s=true:=by decide
 exact this s (List.mem_of_mem_take hs)
abbrev kT:List Str→List Key:=fun s=>s.map Sum.inr
abbrev svT:Hp→List Str→V→Prop:=fun H s v=>∃ b,v=.ref b∧H b=some (.tup (s.map V.str))
theorem j77 (a b:List Str) (h:kT a=kT b):a=b:=by
 have:Function.Injective (Sum.inr:Str→Key):=fun x y h=>by cases h;rfl
 exact List.map_inj_right (fun x y h=>this h) |>.mp h
abbrev RowT:=RowG kT svT
theorem svT_tk {H H':Hp} (e:TK H H') {s:List Str}{v:V} (h:svT H s v):svT H' s v:=let ⟨b,h1,h2⟩:=h;⟨b,h1,e _ _ h2⟩
theorem j1g {H H':Hp}{kvs:List (List Key × V)}{r:Row (List Str)} (e:TK H H') (h:RowT H kvs r):RowT H' kvs r:=RowG.mono (H:=H) (H':=H') (svT_tk e) e h
structure AccT (pool:List Str) (k:Nat) (acc:Row (List Str)):Prop where
 nd:(acc.map (·.1)).Nodup
 st:∀ L:List Str,L∈acc.map (·.1)→StP pool k L
theorem AccT.len {pool:List Str}{k:Nat}{acc:Row (List Str)} (pn:pool.Nodup) (pl:pool.length=k+1) (h:AccT pool k acc):acc.length≤k+1:=by
 have:=jkq pn pl h.nd h.st
 simpa using this
theorem AccT.step {pool:List Str}{k:Nat}{acc:Row (List Str)}{p:Int}{b:List Str}{m:List Str × Int} (h:AccT pool k acc) (hm:StP pool k m.1):AccT pool k (j1s p b acc m):=by
 obtain⟨_,_,g⟩:=j2w (p:=p) (b:=b) (acc:=acc) (m:=m)
 refine⟨g h.nd,fun s hs=>?_⟩
 have put:∀ x,s∈(putR acc m.1 x).map (·.1)→StP pool k s:=fun x hx=>by
  rcases jbm hx with e | e
  ·rw[e];exact hm
  ·exact h.st s e
 unfold j1s at hs
 split at hs
 ·exact put _ hs
 ·split at hs
  ·exact put _ hs
  ·exact h.st s hs
theorem RefsHT.tk {H H':Hp} (e:TK H H') {vs:List V}{Ls:List (List Str)} (r:RefsHT H vs Ls):RefsHT H' vs Ls:=by
 induction r with
 | nil=>exact .nil
 | cons x _ ih=>exact .cons (e _ _ x) ih
abbrev wssK (P:List Str) (k m:Nat):List Str:=(List.range m).map (wsK P k)
theorem j2a {P:List Str}{k:Nat} (pn:P.Nodup) (pl:P.length=k+1) (k1:1≤k) (k8:k≤8) (hP:∀ s∈P,nmS s=true) (i:Nat):Names (rowK P k i):=⟨fun s hs=>hP s (jf1 pl i s hs),jf2 pn pl i,by rw[j0t];exact k1,by rw[j0t];exact k8⟩
structure EnK (H:Hp) (tp sp wl yl:Addr) (k m:Nat) (ys:List V) (Ys:List (List Str)):Prop where
 tt:H tp=some (.tup [.ref sp,.ref wl,.ref yl])
 ss:H sp=some (.tup ((nmsK.take k).map V.str))
 ww:H wl=some (.lst ((wssK (nmsK.take (k+1)) k m).map V.str))
 yy:H yl=some (.lst ys)
 rr:RefsHT H ys Ys
 wy:∃ c,WayR (stK (nmsK.take (k+1)) k 0) ((wssK (nmsK.take (k+1)) k m).map mvS) Ys c∧∀ Zs q,WayR (stK (nmsK.take (k+1)) k 0) ((wssK (nmsK.take (k+1)) k m).map mvS) Zs q→c≤q
theorem EnK.ext {H H':Hp}{tp sp wl yl:Addr}{k m:Nat}{ys:List V}{Ys:List (List Str)} (e:Ext H H') (h:EnK H tp sp wl yl k m ys Ys):EnK H' tp sp wl yl k m ys Ys:=⟨e _ _ h.tt,e _ _ h.ss,e _ _ h.ww,e _ _ h.yy,h.rr.mono e,h.wy⟩
theorem EnK.extT {H H':Hp}{tp sp wl yl:Addr}{k m:Nat}{ys:List V}{Ys:List (List Str)} (e:ExtT H H') (h:EnK H tp sp wl yl k m ys Ys):EnK H' tp sp wl yl k m ys Ys:=⟨e _ _ h.tt rfl,e _ _ h.ss rfl,e _ _ h.ww rfl,e _ _ h.yy rfl,RefsHT.tk (jey e) h.rr,h.wy⟩
theorem j8m {P:List Str}{k m i:Nat}{x:Str} (h:(wssK P k m)[i]?=some x):i < m∧x=wsK P k i:=by
 have hi:i < m:=by have:=(List.getElem?_eq_some_iff.mp h).1;simpa using this
 refine⟨hi,?_⟩
 rw[List.getElem?_map,List.getElem?_range hi] at h
 simpa using h.symm
theorem stK_st {P:List Str}{k:Nat} (pn:P.Nodup) (pl:P.length=k+1) (ps:sortedS P=true):StP P k (stK P k 0):=by
 obtain⟨M,m1,m2⟩:=jbt (P.take k)
 rw[← j4z pn pl ps m1 m2]
 exact⟨m2,m1.nodup_iff.mpr (pn.sublist (List.take_sublist _ _)),by rw[m1.length_eq,List.length_take];omega,fun s hs=>List.mem_of_mem_take (m1.mem_iff.mp hs)⟩
theorem EnK.at {H:Hp}{tp sp wl yl:Addr}{k m:Nat}{ys:List V}{Ys:List (List Str)} (k8:k≤8) (h:EnK H tp sp wl yl k m ys Ys):Ys.length=m∧∀ i,i < m→StP (nmsK.take (k+1)) k (Ys.getD i [])∧wsK (nmsK.take (k+1)) k i∈Ys.getD i []:=by
 obtain⟨pn,pl,ps,pN,pt⟩:=j1w k k8
 obtain⟨c,w1,_⟩:=h.wy
 have l:=jkk w1
 simp only[List.length_map,List.length_range] at l
 refine⟨l,fun i hi=>?_⟩
 refine way_ok w1 (stK_st pn pl ps) (fun x hx=>?_) i _ _ (by rw[List.getElem?_map,List.getElem?_range hi];rfl) (by rw[List.getD_eq_getElem?_getD,List.getElem?_eq_getElem (by omega)];rfl)
 obtain⟨j,_,rfl⟩:=List.mem_map.mp hx
 exact j65 pl j
theorem j3k {k:Nat} (k1:1≤k) (k8:k≤8):Names (nmsK.take k)∧(nmsK.take k).length=k:=by
 obtain⟨pn,pl,ps,pN,pt⟩:=j1w k k8
 rw[← pt,← j29 pl]
 exact⟨j2a pn pl k1 k8 pN 0,j0t 0⟩
def kfl (wo st:Addr) (z:Int) (rw:Addr):List (Str × V):=[("world",.ref wo),("standing",.ref st),("spent",.int z),("row",.ref rw)]
structure KeepR (a:Adr) (H:Hp) (r:Addr) (row:List Str) (z:Int) (dx wo dw st q:Addr) (ss:List Str):Prop where
 hr:H r=some (.ins a.c_Keeper dx (kfl wo st z q))
 hw:H wo=some (.ins a.c_Store dw [("many",.int (row.length:Nat))])
 hs:H st=some (.tup (ss.map V.str))
 hq:H q=some (.lst (row.map V.str))
 pm:ss.Perm row
 so:sortedS ss=true
structure KeepAt (a:Adr) (H:Hp) (r:Addr) (row:List Str) (z:Int):Prop where
 ex:∃ dx wo dw st q ss,KeepR a H r row z dx wo dw st q ss
theorem KeepR.ext {a:Adr}{H H':Hp}{r:Addr}{row:List Str}{z:Int}{dx wo dw st q:Addr}{ss:List Str} (e:Ext H H') (k:KeepR a H r row z dx wo dw st q ss):KeepR a H' r row z dx wo dw st q ss:=⟨e _ _ k.hr,e _ _ k.hw,e _ _ k.hs,e _ _ k.hq,k.pm,k.so⟩
theorem KeepAt.ext {a:Adr}{H H':Hp}{r:Addr}{row:List Str}{z:Int} (e:Ext H H') (k:KeepAt a H r row z):KeepAt a H' r row z:=by
 obtain⟨dx,wo,dw,st,q,ss,k⟩:=k.ex
 exact⟨dx,wo,dw,st,q,ss,k.ext e⟩
theorem j66:∀ (Ys:List (List Str)) (s t:List Str),jbv s (Ys++[t])=jbv s Ys+((t.filter fun x=>!decide (x∈j1f s Ys)).length:Nat)
 | [],s,t=>by show (_:Int)+0=0+_;rw[Int.add_zero,Int.zero_add];rfl
 | y :: Ys,s,t=>by
  show (_:Int)+jbv y (Ys++[t])=_+jbv y Ys+_
  rw[j66 Ys y t,Int.add_assoc]
  rfl
def j9a:Sp:=fun vs H Q _=>∃ (e yl:Addr) (st:List Str) (ys:List V) (Ys:List (List Str)),vs=[.ref e,.ref yl]∧H e=some (.tup (st.map V.str))∧H yl=some (.lst ys)∧RefsHT H ys Ys∧(∀ i,i < Ys.length→(Ys.getD i []).length≤1000)∧∀ H',Ext H H'→Q (.int (jbv st Ys)) H'
theorem j9b (T:Txt K mg a):FnOk P w K mg base (CXU P w) 1 a.f_z26 a.d_z26 ["_law_start","_law_way"] (j9a):=by
 refine T.F_z26.okU j98 (fun vs H Q E h=>?_) (fun cdv A outer s H vs Q E hr h=>?_)
 ·obtain⟨e,yl,st,ys,Ys,rfl,he,hy,hR,hl,hq⟩:=h
  rfl
 ·obtain⟨e,yl,st,ys,Ys,rfl,he,hy,hR,hl,hq⟩:=h
  refine⟨_,(j02 (j0q (i:=2) j98.nd rfl (by first | exact Or.inl rfl | exact Or.inr rfl) j0c)
   (j02 (j0q (i:=3) j98.nd rfl (by first | exact Or.inl rfl | exact Or.inr rfl) (pv 0))
   (j02 (j2y PassesOwn.never rfl (j1p (pv 1)) (j0d (i:=4) j98.nd rfl (by first | exact Or.inl rfl | exact Or.inr rfl)) (j02 (j0q (i:=2) j98.nd rfl (by first | exact Or.inl rfl | exact Or.inr rfl) (j1h j5o (pv 2) (j06 j2m (by rfl) T.n_len PySem.boot_len (j00 (j1c (["_law_page"]:List Str) (["_law_here"]:List Str) [3] rfl ⟨rfl,by decide +kernel,by decide +kernel,by rfl,⟨⟨rfl,by first | exact Or.inl rfl | exact Or.inr rfl,by first | exact Or.inl rfl | exact Or.inr rfl⟩,trivial⟩⟩ (j6h (pv 4)) (fun _ _ _ _=>⟨(j0d (i:=0) (by show ((["_law_page"]:List Str)++(["_law_here"]:List Str)).Nodup;decide +kernel) rfl (by first | exact Or.inl rfl | exact Or.inr rfl)),(show PTs _ [_] [_] from⟨(j0h j8x (pv 0) (pv 1) (by with_unfolding_all rfl)),trivial⟩),(pv 0)⟩)) j03))))
   (j04 (j0q (i:=3) j98.nd rfl (by first | exact Or.inl rfl | exact Or.inr rfl) (pv 4)))))
   (j04 (j0b (pv 2)))))),?_⟩
  have lr:=hR.length
  walk_at "v"
  refine⟨yl,rfl,⟨_,SqL.of hy⟩,j2z (xs:=ys) (fun i σ H3=>(∃ (h:Addr) (u1:Option V),σ=[some (.ref e),some (.ref yl),some (.int (jbv st (Ys.take i))),some (.ref h),u1]∧H3 h=some (.tup ((j1f st (Ys.take i)).map V.str)))∧Ext H H3) ⟨⟨e,none,rfl,he⟩,Ext.rfl'⟩ (fun i σ H3 _ ⟨_,x⟩=>SqL.of (x _ _ hy)) ?_ ?_⟩
  ·rintro i y σ H3 hyi ⟨⟨h,u1,rfl,hh⟩,x3⟩
   obtain⟨c,rfl,hc⟩:=hR.get i y hyi
   have hi:i < Ys.length:=by have:=(List.getElem?_eq_some_iff.mp hyi).1;omega
   have hln:=hl i hi
   have et:Ys.take (i+1)=Ys.take i++[Ys.getD i []]:=by rw[List.take_add_one,List.getD_eq_getElem?_getD,List.getElem?_eq_getElem hi];rfl
   have ep:=j66 (Ys.take i) st (Ys.getD i [])
   rw[← et] at ep
   have el:j1f st (Ys.take (i+1))=Ys.getD i []:=by rw[et];exact j1l _ _ _
   generalize hYi:Ys.getD i []=Yi at *
   generalize hcu:j1f st (Ys.take i)=cur at *
   have hc3:=x3 _ _ hc
   walk_at "v"
   refine⟨c,rfl,⟨_,SqT.of hc3⟩,fun acc hn _ _ _ _=>j1v (SqT.of hc3) (by rw[List.length_map];omega) hn (fun j zs _=>zs=((Yi.take j).filter fun x=>!decide (x∈cur)).map V.str) (by simp) (fun _ _ _ _ _ h=>h) (fun j ys H' _ h=>by rw[h,List.length_map];exact Nat.le_trans (List.length_filter_le _ _) (by rw[List.length_take];omega)) ?_ ?_⟩
   ·rintro j y zs H4 hyj x4 rfl Y N hY hN
    obtain⟨y,ey,rfl⟩:=j1d hyj
    have et2:Yi.take (j+1)=Yi.take j++[y]:=by rw[List.take_add_one,ey];rfl
    walk_at "v"
    refine j37 (x4 _ _ hh) rfl (j1a _) ?_
    rw[j1m]
    walk_at "v"
    refine iteN (fun h=>?_) (fun h=>?_)
    ·walk_at "v"
     refine hY _ _ Ext.rfl' ?_
     rw[et2,List.filter_append,List.filter_cons,if_pos (by simp[h]),List.map_append]
     rfl
    ·walk_at "v"
     refine hN _ Ext.rfl' ?_
     rw[et2,List.filter_append,List.filter_cons,if_neg (by simp[h]),List.filter_nil,List.append_nil]
   ·rintro zs H4 e4 ha rfl
    rw[List.length_map,List.take_of_length_le (Nat.le_refl _)] at ha
    walk_at "v"
    refine j1q ha ?_
    rw[List.length_map]
    walk_at "v"
    refine⟨⟨c,some (.ref c),?_,?_⟩,x3.tr e4⟩
    ·rw[ep];rfl
    ·rw[el];exact e4 _ _ hc3
  ·rintro σ H3 ⟨⟨h,u1,rfl,hh⟩,x3⟩
   rw[lr,List.take_length]
   walk_at "v"
   exact hq H3 x3
def j78:Sp:=fun vs H Q _=>∃ x k,vs=[x]∧HasK H x k∧Q (.bl (k == .int)) H
theorem j79 (T:Txt K mg a):FnOk P w K mg base (CXU P w) 1 a.f_z23 a.d_z23 ["_law_found"] (j78):=by
 refine T.F_z23.okU sc_z23 (fun vs H Q E h=>?_) (fun cdv A outer s H vs Q E hr h=>?_)
 ·obtain⟨x,k,rfl,hk,hq⟩:=h
  rfl
 ·obtain⟨x,k,rfl,hk,hq⟩:=h
  refine⟨_,(j04 (j0b (j59 (j06 j57 (by rfl) T.n_isinstance PyProof.Rows.boot_isinstance (j00 (pv 0) (j00 (j0r (v:=V.ty "int") (by rfl) T.n_int PyProof.Rows.boot_int rfl) j03))) (j6g (pe_not (j06 j57 (by rfl) T.n_isinstance PyProof.Rows.boot_isinstance (j00 (pv 0) (j00 (j0r (v:=V.ty "bool") (by rfl) T.n_bool PyProof.Rows.boot_bool rfl) j03)))))))),?_⟩
  walk_at "v"
  refine jir hk ?_
  cases k <;> (walk_at "v") <;> first | exact hq | (refine jfo hk ?_;(walk_at "v");exact hq)
def j10 (n:Nat):Sp:=fun vs H Q _=>∃ x y d1 d2,vs=[x,y]∧Rep H d1 x∧Rep H d2 y∧d2.fine=true∧d2.depth≤n∧∀ b H',(b=true↔d1=d2)→Ext H H'→Q (.bl b) H'
theorem jf3 {n k:Nat}{spA:Sp} (T:Txt K mg a) (hA:∀ vs H Q E,(∃ m,n=m+1∧j10 m vs H Q E)→spA vs H Q E) (G:FnOk P w K mg base (CXU P w) (k+1) a.f_z27 a.d_z27 ["_law_found","_law_due"] spA) :
  FnOk P w K mg base (CXU P w) (k+2) a.f_z27 a.d_z27 ["_law_found","_law_due"] (j10 n):=by
 refine T.F_z27.okU jh3 (fun vs H Q E h=>?_) (fun cdv A outer s H vs Q E hr h=>?_)
 ·obtain⟨x,y,d1,d2,rfl,_⟩:=h
  rfl
 ·obtain⟨x,y,d1,d2,rfl,h1,h2,hf,hn,hq⟩:=h
  refine⟨_,(j02 (j1u (j0h oIsN (pv 1) j9i (j0o _)) (j04 (j0b (j1i oIsN (pv 0) j9i (j0o _)))) j0f)
   (j02 (j1u (ptT (j06 j57 (by rfl) T.n_isinstance PyProof.Rows.boot_isinstance (j00 (pv 1) (j00 (j0r (v:=V.ty "bool") (by rfl) T.n_bool PyProof.Rows.boot_bool rfl) j03))) (fun _=>rfl)) (j04 (j0b (j59 (j06 j57 (by rfl) T.n_isinstance PyProof.Rows.boot_isinstance (j00 (pv 0) (j00 (j0r (v:=V.ty "bool") (by rfl) T.n_bool PyProof.Rows.boot_bool rfl) j03))) (j6g (j1i (oEq hr) (pv 0) (pv 1) (j0o _)))))) j0f)
   (j02 (j1u (ptT (j06 j57 (by rfl) T.n_isinstance PyProof.Rows.boot_isinstance (j00 (pv 1) (j00 (j0r (v:=V.ty "int") (by rfl) T.n_int PyProof.Rows.boot_int rfl) j03))) (fun _=>rfl)) (j04 (j0b (j59 (j0g (j79 T) (hr.mono (by omega)) (by rfl) T.m_z23 T.F_z23.kp T.b_z23 .nil j0x (j00 (pv 0) j03)) (j6g (j1i (oEq hr) (pv 0) (pv 1) (j0o _)))))) j0f)
   (j02 (j1u (ptT (j06 j57 (by rfl) T.n_isinstance PyProof.Rows.boot_isinstance (j00 (pv 1) (j00 (j0r (v:=V.ty "str") (by rfl) T.n_str PyProof.Rows.boot_str rfl) j03))) (fun _=>rfl)) (j04 (j0b (j59 (j06 j57 (by rfl) T.n_isinstance PyProof.Rows.boot_isinstance (j00 (pv 0) (j00 (j0r (v:=V.ty "str") (by rfl) T.n_str PyProof.Rows.boot_str rfl) j03))) (j6g (j1i (oEq hr) (pv 0) (pv 1) (j0o _)))))) j0f)
   (j02 (j1u (PW.pt (j6f (PW.pt (jhq (ptT (j06 j57 (by rfl) T.n_isinstance PyProof.Rows.boot_isinstance (j00 (pv 1) (j00 (j0r (v:=V.ty "tuple") (by rfl) T.n_tuple PyProof.Rows.boot_tuple rfl) j03))) (fun _=>rfl)) (jdy (j12 (ptT (j06 j57 (by rfl) T.n_isinstance PyProof.Rows.boot_isinstance (j00 (pv 0) (j00 (j0r (v:=V.ty "tuple") (by rfl) T.n_tuple PyProof.Rows.boot_tuple rfl) j03))) (fun _=>rfl)))))) (j2x (PW.pt (jhq (ptT (j06 j57 (by rfl) T.n_isinstance PyProof.Rows.boot_isinstance (j00 (pv 1) (j00 (j0r (v:=V.ty "list") (by rfl) T.n_list PyProof.Rows.boot_list rfl) j03))) (fun _=>rfl)) (jdy (j12 (ptT (j06 j57 (by rfl) T.n_isinstance PyProof.Rows.boot_isinstance (j00 (pv 0) (j00 (j0r (v:=V.ty "list") (by rfl) T.n_list PyProof.Rows.boot_list rfl) j03))) (fun _=>rfl))))))))) (j04 (j0b j3z)) j0f)
   (j02 (j1u (j0h jlo (j06 j2m (by rfl) T.n_len PySem.boot_len (j00 (pv 0) j03)) (j06 j2m (by rfl) T.n_len PySem.boot_len (j00 (pv 1) j03)) (j0o _)) (j04 (j0b j3z)) j0f)
   (j02 (j2y PassesOwn.never rfl (je8 rfl T.n_zip (j00 (pv 0) (j00 (pv 1) j03))) (j9j rfl (j0w (j0d (i:=2) jh3.nd rfl (by first | exact Or.inl rfl | exact Or.inr rfl)) (j0w (j0d (i:=3) jh3.nd rfl (by first | exact Or.inl rfl | exact Or.inr rfl)) j5a))) (j04 (j1u (j12 (ptT (j0g (G) hr (by rfl) T.m_z27 T.F_z27.kp T.b_z27 .nil j0x (j00 (pv 2) (j00 (pv 3) j03))) (fun _=>rfl))) (j04 (j0b j3z)) j0f)))
   (j04 (j0b j3z))))))))),?_⟩
  have k1:=h1.kd
  have k2:=h2.kd
  have no:∀ {B:Prop},¬ B→(false=true↔B):=fun nb=>⟨fun z=>Bool.noConfusion z,fun z=>(nb z).elim⟩
  cases d2 with
  | non =>
   cases (show y=.non from h2)
   walk_at "v"
   refine hq _ H ?_ Ext.rfl'
   rw[decide_eq_true_iff]
   cases d1 with
   | non=>exact⟨fun _=>rfl,fun _=>h1⟩
   | bl c1=>cases (show x=.bl c1 from h1);exact⟨fun z=>(by cases z),fun z=>(by cases z)⟩
   | int c1=>cases (show x=.int c1 from h1);exact⟨fun z=>(by cases z),fun z=>(by cases z)⟩
   | str c1=>cases (show x=.str c1 from h1);exact⟨fun z=>(by cases z),fun z=>(by cases z)⟩
   | tup c1=>obtain⟨_,_,rfl,_⟩:=h1;exact⟨fun z=>(by cases z),fun z=>(by cases z)⟩
   | lst c1=>obtain⟨_,_,rfl,_⟩:=h1;exact⟨fun z=>(by cases z),fun z=>(by cases z)⟩
   | dct=>obtain⟨_,_,rfl,_⟩:=h1;exact⟨fun z=>(by cases z),fun z=>(by cases z)⟩
  | bl c =>
   cases (show y=.bl c from h2)
   walk_at "v"
   refine jfo k2 ?_
   walk_at "v"
   refine jfo k1 ?_
   cases d1 with
   | bl c1 =>
    cases (show x=.bl c1 from h1)
    walk_at "v"
    refine r_eqUB (hq _ H ?_ Ext.rfl')
    rw[decide_eq_true_iff]
    exact⟨fun z=>by rw[z],fun z=>by cases z;rfl⟩
   | _ =>
    walk_at "v"
    exact hq false H (no fun z=>by cases z) Ext.rfl'
  | int c =>
   cases (show y=.int c from h2)
   walk_at "v"
   refine jfo k2 ?_
   walk_at "v"
   refine jir k2 ?_
   walk_at "v"
   refine⟨x,_,rfl,k1,?_⟩
   cases d1 with
   | int c1 =>
    cases (show x=.int c1 from h1)
    walk_at "v"
    refine hq _ H ?_ Ext.rfl'
    rw[decide_eq_true_iff]
    exact⟨fun z=>by rw[z],fun z=>by cases z;rfl⟩
   | _ =>
    walk_at "v"
    exact hq false H (no fun z=>by cases z) Ext.rfl'
  | str c =>
   cases (show y=.str c from h2)
   walk_at "v"
   refine jfo k2 ?_
   walk_at "v"
   refine jir k2 ?_
   walk_at "v"
   refine jhj k2 ?_
   walk_at "v"
   refine jhj k1 ?_
   cases d1 with
   | str c1 =>
    cases (show x=.str c1 from h1)
    walk_at "v"
    refine jj3 (hq _ H ?_ Ext.rfl')
    rw[decide_eq_true_iff]
    exact⟨fun z=>by rw[z],fun z=>by cases z;rfl⟩
   | _ =>
    walk_at "v"
    exact hq false H (no fun z=>by cases z) Ext.rfl'
  | tup es =>
   obtain⟨q,ys,rfl,hq',he⟩:=h2
   walk_at "v"
   refine jfo k2 ?_
   walk_at "v"
   refine jir k2 ?_
   walk_at "v"
   refine jhj k2 ?_
   walk_at "v"
   refine jhk k2 ?_
   walk_at "v"
   refine jhk k1 ?_
   cases d1 with
   | tup ds =>
    obtain⟨p,xs,rfl,hp,hd⟩:=h1
    walk_at "v"
    refine jis k2 ?_
    walk_at "v"
    refine j24 hp ?_
    walk_at "v"
    refine j24 hq' ?_
    walk_at "v"
    have l1:=hd.length
    have l2:=he.length
    refine iteN (fun hl=>?_) (fun hl=>?_)
    ·walk_at "v"
     refine hq false H (no fun z=>hl ?_) Ext.rfl'
     cases z
     omega
    walk_at "v"
    refine⟨p,q,xs,ys,true,true,rfl,SqT.of hp,SqT.of hq',j6t (c:=true) (d:=true) (fun i σ H2=>(∃ u v,σ=[some (.ref p),some (.ref q),u,v])∧Ext H H2∧ds.take i=es.take i) (by omega) ⟨⟨none,none,rfl⟩,Ext.rfl',rfl⟩ (fun i σ H2 _ ⟨_,e,_⟩=>⟨SqT.of (e _ _ hp),SqT.of (e _ _ hq')⟩) ?_ ?_⟩
    ·rintro i x y σ H2 r hx hy ⟨⟨u,v,rfl⟩,e,ht⟩ hr0
     obtain⟨d,d1,d2⟩:=hd.get hx
     obtain⟨f,f1,f2⟩:=he.get hy
     refine jcu j07 rfl ?_
     walk_at "v"
     have e2:Ext H (upd H2 r (.tup [x,y])):=e.tr (j0j hr0)
     have hn':D.depthL es+1≤n:=hn
     refine hA _ _ _ _ ⟨n-1,by omega,x,y,d,f,rfl,d2.mono e2,f2.mono e2,j6o hf f1,j4l (by omega) f1,fun b H3 hb e3=>?_⟩
     walk_at "v"
     cases b with
     | true =>
      walk_at "v"
      refine⟨⟨_,_,rfl⟩,e2.tr e3,?_⟩
      rw[List.take_add_one,List.take_add_one,d1,f1,ht,hb.mp rfl]
     | false =>
      walk_at "v"
      refine hq false H3 ⟨fun z=>Bool.noConfusion z,fun z=>?_⟩ (e2.tr e3)
      cases z
      rw[d1] at f1
      cases f1
      exact hb.mpr rfl
    ·rintro σ H2 ⟨⟨u,v,rfl⟩,e,ht⟩
     walk_at "v"
     refine hq true H2 ⟨fun _=>?_,fun _=>rfl⟩ e
     rw[List.take_of_length_le (by omega),List.take_of_length_le (by omega)] at ht
     rw[ht]
   | _ =>
    walk_at "v"
    exact hq false H (no fun z=>by cases z) Ext.rfl'
  | lst es =>
   obtain⟨q,ys,rfl,hq',he⟩:=h2
   walk_at "v"
   refine jfo k2 ?_
   walk_at "v"
   refine jir k2 ?_
   walk_at "v"
   refine jhj k2 ?_
   walk_at "v"
   refine jhk k2 ?_
   walk_at "v"
   refine jis k2 ?_
   walk_at "v"
   refine jis k1 ?_
   cases d1 with
   | lst ds =>
    obtain⟨p,xs,rfl,hp,hd⟩:=h1
    walk_at "v"
    refine j1q hp ?_
    walk_at "v"
    refine j1q hq' ?_
    walk_at "v"
    have l1:=hd.length
    have l2:=he.length
    refine iteN (fun hl=>?_) (fun hl=>?_)
    ·walk_at "v"
     refine hq false H (no fun z=>hl ?_) Ext.rfl'
     cases z
     omega
    walk_at "v"
    refine⟨p,q,xs,ys,false,false,rfl,SqL.of hp,SqL.of hq',j6t (c:=false) (d:=false) (fun i σ H2=>(∃ u v,σ=[some (.ref p),some (.ref q),u,v])∧Ext H H2∧ds.take i=es.take i) (by omega) ⟨⟨none,none,rfl⟩,Ext.rfl',rfl⟩ (fun i σ H2 _ ⟨_,e,_⟩=>⟨SqL.of (e _ _ hp),SqL.of (e _ _ hq')⟩) ?_ ?_⟩
    ·rintro i x y σ H2 r hx hy ⟨⟨u,v,rfl⟩,e,ht⟩ hr0
     obtain⟨d,d1,d2⟩:=hd.get hx
     obtain⟨f,f1,f2⟩:=he.get hy
     refine jcu j07 rfl ?_
     walk_at "v"
     have e2:Ext H (upd H2 r (.tup [x,y])):=e.tr (j0j hr0)
     have hn':D.depthL es+1≤n:=hn
     refine hA _ _ _ _ ⟨n-1,by omega,x,y,d,f,rfl,d2.mono e2,f2.mono e2,j6o hf f1,j4l (by omega) f1,fun b H3 hb e3=>?_⟩
     walk_at "v"
     cases b with
     | true =>
      walk_at "v"
      refine⟨⟨_,_,rfl⟩,e2.tr e3,?_⟩
      rw[List.take_add_one,List.take_add_one,d1,f1,ht,hb.mp rfl]
     | false =>
      walk_at "v"
      refine hq false H3 ⟨fun z=>Bool.noConfusion z,fun z=>?_⟩ (e2.tr e3)
      cases z
      rw[d1] at f1
      cases f1
      exact hb.mpr rfl
    ·rintro σ H2 ⟨⟨u,v,rfl⟩,e,ht⟩
     walk_at "v"
     refine hq true H2 ⟨fun _=>?_,fun _=>rfl⟩ e
     rw[List.take_of_length_le (by omega),List.take_of_length_le (by omega)] at ht
     rw[ht]
   | _ =>
    walk_at "v"
    exact hq false H (no fun z=>by cases z) Ext.rfl'
  | dct=>cases hf
theorem j8n (T:Txt K mg a):∀ n:Nat,FnOk P w K mg base (CXU P w) (n+2) a.f_z27 a.d_z27 ["_law_found","_law_due"] (j10 n)
 | 0=>jf3 (k:=0) (spA:=fun _ _ _ _=>False) T (fun _ _ _ _ ⟨m,e,_⟩=>by omega) FnOk.no
 | n+1=>jf3 (n:=n+1) (k:=n+1) (spA:=j10 n) T (fun _ _ _ _ ⟨m,e,h⟩=>by cases e;exact h) (j8n T n)
theorem j4d (T:Txt K mg a):FnOk P w K mg base (CXU P w) 7 a.f_z27 a.d_z27 ["_law_found","_law_due"] (j10 5):=j8n T 5
theorem jbw {x y:V}{d:D}{H:Hp}{Q:VK}{E:XK} (h1:Rep H d x) (h2:Rep H d y) (hf:d.fine=true) (hd:Nat.ble d.depth 5=true) (hq:∀ H',Ext H H'→Q (.bl true) H'):j10 5 [x,y] H Q E :=
 ⟨x,y,d,d,rfl,h1,h2,hf,Nat.le_of_ble_eq_true hd,fun b H' hb e=>by rw[hb.mpr rfl];exact hq H' e⟩
def j7a (a:Adr):Sp:=fun vs H Q _=>∃ (r:Addr) (row:List Str) (z:Int),vs=[.ref r]∧KeepAt a H r row z∧Q (.int z) H
theorem j7b (T:Txt K mg a):FnOk P w K mg base (CXU P w) 1 a.f_z19 a.d_z19 ["self"] (j7a a):=by
 refine T.F_z19.okU sc_z19 (fun vs H Q E h=>?_) (fun cdv A outer s H vs Q E hr h=>?_)
 ·obtain⟨r,row,z,rfl,hB,hq⟩:=h
  rfl
 ·obtain⟨r,row,z,rfl,hB,hq⟩:=h
  have zc_Keeper:=T.cl_Keeper
  have zn_Keeper_row:=T.na_Keeper_row
  have zn_Keeper_world:=T.na_Keeper_world
  have zn_Keeper_standing:=T.na_Keeper_standing
  have zn_Keeper_spent:=T.na_Keeper_spent
  have zc_Store:=T.cl_Store
  have zn_Store_many:=T.na_Store_many
  refine⟨_,(j04 (j0b (j30 (pv 0) rfl))),?_⟩
  obtain⟨dx,wo,dw,st,q,ss,k⟩:=hB.ex
  have h1:=k.hr
  walk_at "v"
  exact hq
def j9c:Sp:=fun vs H Q _=>∃ (e wl:Addr) (k m:Nat),vs=[.ref e,.ref wl]∧H e=some (.tup ((nmsK.take k).map V.str))∧H wl=some (.lst ((wssK (nmsK.take (k+1)) k m).map V.str))∧1≤k∧k≤8∧m≤1000∧∀ H',Ext H H'→Q (.int (m:Nat)) H'
theorem j9d (T:Txt K mg a):FnOk P w K mg base (CXU P w) 1 a.f_z25 a.d_z25 ["_law_start","_law_wishes"] (j9c):=by
 refine T.F_z25.okU j73 (fun vs H Q E h=>?_) (fun cdv A outer s H vs Q E hr h=>?_)
 ·obtain⟨e,wl,k,m,rfl,he,hw,k1,k8,hm,hq⟩:=h
  rfl
 ·obtain⟨e,wl,k,m,rfl,he,hw,k1,k8,hm,hq⟩:=h
  refine⟨_,(j02 (j0q (i:=2) j73.nd rfl (by first | exact Or.inl rfl | exact Or.inr rfl) (j0m jhi (by rfl) T.n_list PyProof.Rows.boot_list (j00 (pv 0) j03)))
   (j02 (j0q (i:=3) j73.nd rfl (by first | exact Or.inl rfl | exact Or.inr rfl) j0c)
   (j02 (j2y PassesOwn.never rfl (j1p (pv 1)) (j0d (i:=4) j73.nd rfl (by first | exact Or.inl rfl | exact Or.inr rfl)) (j02 (j0q (i:=3) j73.nd rfl (by first | exact Or.inl rfl | exact Or.inr rfl) (j1h j5o (pv 3) (j0m cInt1 (by rfl) T.n_int PyProof.Rows.boot_int (j00 (j1i j8x (pv 4) (pv 2) (by with_unfolding_all rfl)) j03))))
   (j02 (j0q (i:=2) j73.nd rfl (by first | exact Or.inl rfl | exact Or.inr rfl) (j1h j5o (j1c (["_law_page"]:List Str) (["_law_wish"]:List Str) [4] rfl ⟨rfl,by decide +kernel,by decide +kernel,by rfl,⟨⟨rfl,by first | exact Or.inl rfl | exact Or.inr rfl,by first | exact Or.inl rfl | exact Or.inr rfl⟩,trivial⟩⟩ (j1p (pv 2)) (fun _ _ _ _=>⟨(j0d (i:=0) (by show ((["_law_page"]:List Str)++(["_law_wish"]:List Str)).Nodup;decide +kernel) rfl (by first | exact Or.inl rfl | exact Or.inr rfl)),(show PTs _ [_] [_] from⟨(j0h (oNe hr) (pv 0) (pv 1) (j0o _)),trivial⟩),(pv 0)⟩)) (j5f (j00 (pv 4) j03))))
   (j04 (j0q (i:=2) j73.nd rfl (by first | exact Or.inl rfl | exact Or.inr rfl) (j31 oSl (pv 2) (j5i (j1h j8r (j06 j2m (by rfl) T.n_len PySem.boot_len (j00 (pv 2) j03)) (j06 j2m (by rfl) T.n_len PySem.boot_len (j00 (pv 0) j03)))) j5h))))))
   (j04 (j0b (pv 3)))))),?_⟩
  obtain⟨pn,pl,ps,pN,pt⟩:=j1w k k8
  obtain⟨hN,lN⟩:=j3k k1 k8
  have e0:nmsK.take k=rowK (nmsK.take (k+1)) k 0:=by rw[j29 pl,pt]
  have lw:(wssK (nmsK.take (k+1)) k m).length=m:=by simp
  walk_at "v"
  refine j7u he fun l1 H1 n1 q1 e1=>?_
  rw[e0] at q1
  generalize hP:nmsK.take (k+1)=P at *
  walk_at "v"
  refine⟨wl,rfl,⟨_,SqL.of (e1 _ _ hw)⟩,j2z (xs:=(wssK P k m).map V.str) (fun i σ H3=>(∃ (o:Addr) (u1:Option V),σ=[some (.ref e),some (.ref wl),some (.ref o),some (.int (i:Nat)),u1]∧H3 o=some (.lst ((rowK P k i).map V.str)))∧Ext H H3) ⟨⟨l1,none,rfl,q1⟩,e1⟩ (fun i σ H3 _ ⟨_,x⟩=>SqL.of (x _ _ hw)) ?_ ?_⟩
  ·rintro i x σ H3 hx ⟨⟨o,u1,rfl,ho⟩,x3⟩
   obtain⟨x,ex,rfl⟩:=j1d hx
   obtain⟨hi,rfl⟩:=j8m ex
   have nin:=j8l pn pl i
   have lr:=j0t (P:=P) (k:=k) i
   have nx:=j8k (P:=P) k1 i
   generalize hrow:rowK P k i=row at *
   generalize hwi:wsK P k i=w at *
   walk_at "v"
   refine jfp ho rfl (j1a _) ?_
   rw[j1m,decide_eq_false nin]
   walk_at "v"
   refine⟨o,rfl,⟨_,SqL.of ho⟩,fun acc hac _ _ _ _=>j22 (SqL.of ho) (by rw[List.length_map];omega) hac (fun j ys _=>ys=(row.take j).map V.str) (by simp) (fun _ _ _ _ _ h=>h) (fun j ys H' _ h=>by rw[h,List.length_map,List.length_take];omega) ?_ ?_⟩
   ·rintro j y ys H5 hy x5 rfl Y N hY hN'
    obtain⟨y,ey,rfl⟩:=j1d hy
    have et:row.take (j+1)=row.take j++[y]:=by rw[List.take_add_one,ey];rfl
    walk_at "v"
    refine jfx ?_
    walk_at "v"
    refine iteN (fun h=>?_) (fun h=>absurd (List.mem_of_getElem? ey) (by rw[h];exact nin))
    walk_at "v"
    refine hY _ _ Ext.rfl' ?_
    rw[et,List.map_append]
    rfl
   ·rintro ys H5 e5 ha rfl
    rw[List.length_map,List.take_of_length_le (Nat.le_refl _)] at ha
    walk_at "v"
    intro p6 H6 n6 q6 e6
    walk_at "v"
    refine j80 (e6 _ _ ha) q6 (by simp only[List.length_map,List.length_cons,List.length_nil];omega) fun q7 H7 n7 h7 e7=>?_
    have eb:row.map V.str++[V.str w]=(row++[w]).map V.str:=by rw[List.map_append];rfl
    rw[eb] at h7
    have x37:=e5.tr (e6.tr e7)
    walk_at "v"
    refine j1q h7 ?_
    walk_at "v"
    refine j24 ((x3.tr x37) _ _ he) ?_
    walk_at "v"
    rw[List.length_map,List.length_map,lN,show (((row++[w]).length:Nat):Int)-(k:Int)=((1:Nat):Int) by rw[List.length_append,lr];simp;omega]
    refine jnh h7 fun l8 H8 n8 q8 e8=>?_
    rw[jbs (by rw[List.length_append];simp),List.drop_append_of_le_length (by omega),← nx] at q8
    walk_at "v"
    exact⟨⟨l8,_,rfl,q8⟩,(x3.tr x37).tr e8⟩
  ·rintro σ H3 ⟨⟨o,u1,rfl,ho⟩,x3⟩
   rw[List.length_map,lw]
   walk_at "v"
   exact hq H3 x3
def j1x (a:Adr):Sp:=fun vs H Q _=>∃ (r:Addr) (row:List Str) (z:Int) (w:Str),vs=[.ref r,.str w]∧KeepAt a H r row z∧1≤row.length∧row.length≤1000∧∀ l H',H l=none→H' l=some (.lst ((beh w row).map V.str))→Ext H H'→Q (.ref l) H'
theorem j17 (T:Txt K mg a):FnOk P w K mg base (CXU P w) 1 a.f_z0 a.d_z0 ["self","wish"] (j1x a):=by
 refine T.F_z0.okU sc_z0 (fun vs H Q E h=>?_) (fun cdv A outer s H vs Q E hr h=>?_)
 ·obtain⟨r,row,z,w,rfl,hB,h1l,hl,hq⟩:=h
  rfl
 ·obtain⟨r,row,z,w,rfl,hB,h1l,hl,hq⟩:=h
  have zc_Keeper:=T.cl_Keeper
  have zn_Keeper_row:=T.na_Keeper_row
  have zn_Keeper_world:=T.na_Keeper_world
  have zn_Keeper_standing:=T.na_Keeper_standing
  have zn_Keeper_spent:=T.na_Keeper_spent
  have zc_Store:=T.cl_Store
  have zn_Store_many:=T.na_Store_many
  refine⟨_,(j02 (j1u (j0h oIn (pv 1) (j30 (pv 0) rfl) (by with_unfolding_all rfl)) (j04 (j0b (j1h j5o (j1c (["page"]:List Str) (["wish"]:List Str) [1] rfl ⟨rfl,by decide +kernel,by decide +kernel,by rfl,⟨⟨rfl,by first | exact Or.inl rfl | exact Or.inr rfl,by first | exact Or.inl rfl | exact Or.inr rfl⟩,trivial⟩⟩ (j1p (j30 (pv 0) rfl)) (fun _ _ _ _=>⟨(j0d (i:=0) (by show ((["page"]:List Str)++(["wish"]:List Str)).Nodup;decide +kernel) rfl (by first | exact Or.inl rfl | exact Or.inr rfl)),(show PTs _ [_] [_] from⟨(j0h (oNe hr) (pv 0) (pv 1) (j0o _)),trivial⟩),(pv 0)⟩)) (j5f (j00 (pv 1) j03))))) j0f)
   (j04 (j0b (j1h j5o (j31 oSl (j30 (pv 0) rfl) (j5i j0c) j5h) (j5f (j00 (pv 1) j03)))))),?_⟩
  obtain⟨dx,wo,dw,st,q,ss,k⟩:=hB.ex
  have h1:=k.hr
  have hqq:=k.hq
  walk_at "v"
  refine r_inL hqq rfl (j1a _) ?_
  rw[j1m]
  walk_at "v"
  refine iteD (fun hm=>?_) (fun hm=>?_)
  ·walk_at "v"
   refine⟨q,rfl,⟨_,SqL.of hqq⟩,fun acc hn _ _ _ _=>j22 (SqL.of hqq) (by rw[List.length_map];omega) hn (fun j ys _=>ys=((row.take j).filter fun t=>!decide (t=w)).map V.str) (by simp) (fun _ _ _ _ _ h=>h) (fun j ys H' _ h=>by rw[h,List.length_map];exact Nat.le_trans (List.length_filter_le _ _) (by rw[List.length_take];omega)) ?_ ?_⟩
   ·rintro j y ys H2 hy e rfl Y N hY hN
    obtain⟨y,ey,rfl⟩:=j1d hy
    have et:row.take (j+1)=row.take j++[y]:=by rw[List.take_add_one,ey];rfl
    walk_at "v"
    refine jfx ?_
    walk_at "v"
    refine iteN (fun h=>?_) (fun h=>?_)
    ·walk_at "v"
     refine hY _ _ Ext.rfl' ?_
     rw[et,List.filter_append,List.filter_cons,if_pos (by simp[h]),List.map_append]
     rfl
    ·walk_at "v"
     refine hN _ Ext.rfl' ?_
     rw[et,List.filter_append,List.filter_cons,if_neg (by simp[h]),List.filter_nil,List.append_nil]
   ·rintro ys H2 e2 ha rfl
    rw[List.length_map,List.take_of_length_le (Nat.le_refl _)] at ha
    walk_at "v"
    intro p3 H3 n3 q3 e3
    have zl:=List.length_filter_le (fun t=>!decide (t=w)) row
    walk_at "v"
    refine j80 (e3 _ _ ha) q3 (by simp only[List.length_map,List.length_cons,List.length_nil];omega) fun q4 H4 n4 h4 e4=>?_
    have eb:(beh w row).map V.str=(row.filter fun t=>!decide (t=w)).map V.str++[V.str w]:=by unfold beh;rw[if_pos hm,List.map_append];rfl
    rw[← eb] at h4
    exact hq q4 H4 ((e2.tr e3).free n4) h4 ((e2.tr e3).tr e4)
  ·walk_at "v"
   refine jnh hqq fun l2 H2 n2 q2 e2=>?_
   rw[show (1:Int)=((1:Nat):Int) from rfl,jbs h1l] at q2
   walk_at "v"
   intro p3 H3 n3 q3 e3
   walk_at "v"
   refine j80 (e3 _ _ q2) q3 (by simp only[List.length_map,List.length_cons,List.length_nil,List.length_drop];omega) fun q4 H4 n4 h4 e4=>?_
   have eb:(beh w row).map V.str=(row.drop 1).map V.str++[V.str w]:=by unfold beh;rw[if_neg hm,List.map_append];rfl
   rw[← eb] at h4
   exact hq q4 H4 ((e2.tr e3).free n4) h4 ((e2.tr e3).tr e4)
def j3w (a:Adr):Sp:=fun vs H Q _=>∃ (r dx wo dw st q:Addr) (row ss:List Str) (z:Int) (w:Str),vs=[.ref r,.str w]∧KeepR a H r row z dx wo dw st q ss∧1≤row.length∧row.length≤1000∧∀ q' H',H' r=some (.ins a.c_Keeper dx (kfl wo st z q'))→H' q'=some (.lst ((beh w row).map V.str))→But r H H'→Q .non H'
theorem j3x (T:Txt K mg a):FnOk P w K mg base (CXU P w) 2 a.f_z9 a.d_z9 ["self","wish"] (j3w a):=by
 refine T.F_z9.okU sc_z9 (fun vs H Q E h=>?_) (fun cdv A outer s H vs Q E hr h=>?_)
 ·obtain⟨r,dx,wo,dw,st,q,row,ss,z,w,rfl,k,h1l,hl,hq⟩:=h
  rfl
 ·obtain⟨r,dx,wo,dw,st,q,row,ss,z,w,rfl,k,h1l,hl,hq⟩:=h
  have zc_Keeper:=T.cl_Keeper
  have zn_Keeper_row:=T.na_Keeper_row
  have zn_Keeper_world:=T.na_Keeper_world
  have zn_Keeper_standing:=T.na_Keeper_standing
  have zn_Keeper_spent:=T.na_Keeper_spent
  have zc_Store:=T.cl_Store
  have zn_Store_many:=T.na_Store_many
  refine⟨_,(j04 (j5e (pv 0) (j18 (pv 0) T.cl_Keeper T.me_Keeper_row_behind (j17 T) (hr.mono (by decide)) T.b_z0 .nil j0x (j00 (pv 1) j03)) rfl)),?_⟩
  have h1:=k.hr
  walk_at "v"
  refine⟨r,row,z,w,rfl,⟨_,_,_,_,_,_,k⟩,h1l,hl,fun l H1 n1 q1 e1=>?_⟩
  have h11:=e1 _ _ h1
  walk_at "v"
  refine je6 h11 T.cl_Keeper T.na_Keeper_row (j5n rfl) fun H2 h2 b2=>?_
  exact hq l H2 h2 (b2 _ _ (j58 q1 h11 (by intro z;cases z)) q1) (Ext.toBut e1 b2)
def j50:Sp:=fun vs H Q _=>∃ (r p q:Addr) (ss qs:List Str) (w:Str),vs=[.ref r,.ref p,.str w,.ref q]∧H p=some (.tup (ss.map V.str))∧H q=some (.tup (qs.map V.str))∧qs.length≤1000∧∀ H',Ext H H'→Q (prS ss qs w) H'
theorem j2b (T:Txt K mg a):FnOk P w K mg base (CXU P w) 1 a.f_z13 a.d_z13 ["self","before","wish","after"] (j50):=by
 refine T.F_z13.okU sc_z13 (fun vs H Q E h=>?_) (fun cdv A outer s H vs Q E hr h=>?_)
 ·obtain⟨r,p,q,ss,qs,w,rfl,hp,hq',hl,hq⟩:=h
  rfl
 ·obtain⟨r,p,q,ss,qs,w,rfl,hp,hq',hl,hq⟩:=h
  refine⟨_,(j02 (j1u (j0h j8x (pv 2) (pv 3) (by with_unfolding_all rfl)) (j04 (j0b j9i)) j0f)
   (j04 (j0b (j06 j2m (by rfl) T.n_len PySem.boot_len (j00 (j1c (["page"]:List Str) (["before"]:List Str) [1] rfl ⟨rfl,by decide +kernel,by decide +kernel,by rfl,⟨⟨rfl,by first | exact Or.inl rfl | exact Or.inr rfl,by first | exact Or.inl rfl | exact Or.inr rfl⟩,trivial⟩⟩ (j6h (pv 3)) (fun _ _ _ _=>⟨(j0d (i:=0) (by show ((["page"]:List Str)++(["before"]:List Str)).Nodup;decide +kernel) rfl (by first | exact Or.inl rfl | exact Or.inr rfl)),(show PTs _ [_] [_] from⟨(j0h j8x (pv 0) (pv 1) (by with_unfolding_all rfl)),trivial⟩),(pv 0)⟩)) j03))))),?_⟩
  walk_at "v"
  refine j37 hq' rfl (j1a _) ?_
  rw[j1m]
  walk_at "v"
  refine iteN (fun hw=>?_) (fun hw=>?_)
  ·walk_at "v"
   have e:prS ss qs w=.non:=if_neg hw
   rw[← e]
   exact hq H Ext.rfl'
  have e0:prS ss qs w=.int ((qs.filter fun t=>!decide (t∈ss)).length:Nat):=if_pos hw
  rw[e0] at hq
  walk_at "v"
  refine⟨q,rfl,⟨_,SqT.of hq'⟩,fun acc hn _ _ _ _=>j1v (SqT.of hq') (by rw[List.length_map];omega) hn (fun j ys _=>ys=((qs.take j).filter fun t=>!decide (t∈ss)).map V.str) (by simp) (fun _ _ _ _ _ h=>h) (fun j ys H' _ h=>by rw[h,List.length_map];exact Nat.le_trans (List.length_filter_le _ _) (by rw[List.length_take];omega)) ?_ ?_⟩
  ·rintro j y ys H2 hy e rfl Y N hY hN
   obtain⟨y,ey,rfl⟩:=j1d hy
   have et:qs.take (j+1)=qs.take j++[y]:=by rw[List.take_add_one,ey];rfl
   walk_at "v"
   refine j37 (e _ _ hp) rfl (j1a _) ?_
   rw[j1m]
   walk_at "v"
   refine iteN (fun h=>?_) (fun h=>?_)
   ·walk_at "v"
    refine hY _ _ Ext.rfl' ?_
    rw[et,List.filter_append,List.filter_cons,if_pos (by simp[h]),List.map_append]
    rfl
   ·walk_at "v"
    refine hN _ Ext.rfl' ?_
    rw[et,List.filter_append,List.filter_cons,if_neg (by simp[h]),List.filter_nil,List.append_nil]
  ·rintro ys H2 e2 ha rfl
   rw[List.length_map,List.take_of_length_le (Nat.le_refl _)] at ha
   walk_at "v"
   refine j1q ha ?_
   rw[List.length_map]
   exact hq H2 e2
def j3l (a:Adr):Sp:=fun vs H Q _=>∃ (r q:Addr) (row qs:List Str) (z:Int) (w:Str),vs=[.ref r,.str w,.ref q]∧KeepAt a H r row z∧H q=some (.tup (qs.map V.str))∧qs.length≤1000∧w∈qs∧∀ H',Ext H H'→Q (.int ((qs.filter fun t=>!decide (t∈row)).length:Nat)) H'
theorem j3m (T:Txt K mg a):FnOk P w K mg base (CXU P w) 2 a.f_z6 a.d_z6 ["self","wish","after"] (j3l a):=by
 refine T.F_z6.okU sc_z6 (fun vs H Q E h=>?_) (fun cdv A outer s H vs Q E hr h=>?_)
 ·obtain⟨r,q,row,qs,z,w,rfl,hB,hq',hl,hw,hq⟩:=h
  rfl
 ·obtain⟨r,q,row,qs,z,w,rfl,hB,hq',hl,hw,hq⟩:=h
  have zc_Keeper:=T.cl_Keeper
  have zn_Keeper_row:=T.na_Keeper_row
  have zn_Keeper_world:=T.na_Keeper_world
  have zn_Keeper_standing:=T.na_Keeper_standing
  have zn_Keeper_spent:=T.na_Keeper_spent
  have zc_Store:=T.cl_Store
  have zn_Store_many:=T.na_Store_many
  refine⟨_,(j04 (j0b (j18 (j30 (pv 0) rfl) T.cl_Store T.me_Store_price (j2b T) (hr.mono (by decide)) T.b_z13 .nil j0x (j00 (j30 (pv 0) rfl) (j00 (pv 1) (j00 (pv 2) j03)))))),?_⟩
  obtain⟨dx,wo,dw,st,q0,ss,k⟩:=hB.ex
  have h1:=k.hr
  have h2:=k.hw
  have ef:(qs.filter fun t=>!decide (t∈row))=qs.filter fun t=>!decide (t∈ss):=List.filter_congr fun t _=>by rw[decide_eq_decide.mpr k.pm.mem_iff]
  rw[ef] at hq
  walk_at "v"
  refine⟨wo,st,q,ss,qs,w,rfl,k.hs,hq',hl,fun H' e'=>?_⟩
  rw[show prS ss qs w=.int ((qs.filter fun t=>!decide (t∈ss)).length:Nat) from if_pos hw]
  exact hq H' e'
def j3n (a:Adr):Sp:=fun vs H Q _=>∃ (r:Addr) (row:List Str) (z:Int) (w:Str),vs=[.ref r,.str w]∧KeepAt a H r row z∧Names row∧nmS w=true∧∀ t (ss:List Str) H',ss.Perm (beh w row)→sortedS ss=true→H' t=some (.tup (ss.map V.str))→Ext H H'→Q (.ref t) H'
theorem j3o (T:Txt K mg a):FnOk P w K mg base (CXU P w) 2 a.f_z5 a.d_z5 ["self","wish"] (j3n a):=by
 refine T.F_z5.okU sc_z5 (fun vs H Q E h=>?_) (fun cdv A outer s H vs Q E hr h=>?_)
 ·obtain⟨r,row,z,w,rfl,hB,hN,hw,hq⟩:=h
  rfl
 ·obtain⟨r,row,z,w,rfl,hB,hN,hw,hq⟩:=h
  have zc_Keeper:=T.cl_Keeper
  have zn_Keeper_row:=T.na_Keeper_row
  have zn_Keeper_world:=T.na_Keeper_world
  have zn_Keeper_standing:=T.na_Keeper_standing
  have zn_Keeper_spent:=T.na_Keeper_spent
  have zc_Store:=T.cl_Store
  have zn_Store_many:=T.na_Store_many
  refine⟨_,(j04 (j0b (j0m ja4 (by rfl) T.n_tuple PyProof.Rows.boot_tuple (j00 (j06 j6w (by rfl) T.n_sorted PyProof.Rows.boot_sorted (j00 (j18 (pv 0) T.cl_Keeper T.me_Keeper_row_behind (j17 T) (hr.mono (by decide)) T.b_z0 .nil j0x (j00 (pv 1) j03)) j03)) j03)))),?_⟩
  have g8:=hN.hi
  have gl:=(j8i hN hw).2
  obtain⟨dx,wo,dw,st,q,ss,k⟩:=hB.ex
  have h1:=k.hr
  walk_at "v"
  refine⟨r,row,z,w,rfl,hB,hN.lo,by omega,fun l H1 n1 q1 e1=>?_⟩
  walk_at "v"
  refine jag q1 (by omega) fun l2 s2 H2 n2 p2 o2 q2 e2=>?_
  walk_at "v"
  refine j33 q2 fun t H3 n3 q3 e3=>?_
  exact hq t s2 H3 p2 o2 q3 ((e1.tr e2).tr e3)
def jbx:Sp:=fun vs H Q _=>∃ x k,vs=[x]∧HasK H x k∧(∀ z,x=.str z→AscS z∧z.length≤1000)∧∀ H',Ext H H'→Q (.bl (nmV x)) H'
theorem j67 (T:Txt K mg a):FnOk P w K mg base (CXU P w) 1 a.f_z28 a.d_z28 ["thing"] (jbx):=by
 refine T.F_z28.okU sc_z28 (fun vs H Q E h=>?_) (fun cdv A outer s H vs Q E hr h=>?_)
 ·obtain⟨x,k,rfl,hk,hz,hq⟩:=h
  rfl
 ·obtain⟨x,k,rfl,hk,hz,hq⟩:=h
  refine⟨_,(j02 (j1u (PW.pt (j6f (j12 (ptT (j06 j57 (by rfl) T.n_isinstance PyProof.Rows.boot_isinstance (j00 (pv 0) (j00 (j0r (v:=V.ty "str") (by rfl) T.n_str PyProof.Rows.boot_str rfl) j03))) (fun _=>rfl))) (j2x (j12 (jf9 oLeW oLeW j0c (j06 j2m (by rfl) T.n_len PySem.boot_len (j00 (pv 0) j03)) j0c))))) (j04 (j0b j3z)) j0f)
   (j04 (j0b (j06 (cAll rfl) (by rfl) T.n_all PyProof.Rows.boot_all (j00 (j1c (["sign"]:List Str) ([]:List Str) [] rfl ⟨rfl,by decide +kernel,by decide +kernel,by rfl,trivial⟩ (jj9 (pv 0)) (fun _ _ _ _=>⟨(j0d (i:=0) (by show ((["sign"]:List Str)++([]:List Str)).Nodup;decide +kernel) rfl (by first | exact Or.inl rfl | exact Or.inr rfl)),(show PTs _ [] [] from trivial),(j9n oLeW oLeW jce (pv 0) jce)⟩)) j03))))),?_⟩
  walk_at "v"
  refine jhj hk ?_
  cases x with
  | str z =>
   cases (show k=.str from hk)
   obtain⟨ha,hl⟩:=hz z rfl
   walk_at "v"
   refine jaf (by omega) ?_
   walk_at "v"
   refine iteD (fun c1=>?_) (fun c1=>?_)
   rotate_left
   ·walk_at "v"
    have e:nmV (.str z)=false:=by show nmS z=false;unfold nmS;rw[show decide (1≤z.length)=false from decide_eq_false (by omega)];rfl
    rw[← e];exact hq H Ext.rfl'
   walk_at "v"
   refine iteN (fun c2=>?_) (fun c2=>?_)
   ·walk_at "v"
    have e:nmV (.str z)=false:=by show nmS z=false;unfold nmS;rw[show decide (z.length≤8)=false from decide_eq_false (by omega),Bool.and_false];rfl
    rw[← e];exact hq H Ext.rfl'
   walk_at "v"
   refine⟨z,rfl,ha,fun acc hn _ _ _ _=>jg0 V.bl nmL (by show z.length≤1000000;omega) hn (fun i c H3 Y hc e hY=>?_) fun H2 e2 hacc=>?_⟩
   ·walk_at "v"
    rw[cps_a,le_a]
    refine iteD (fun g1=>?_) (fun g1=>?_)
    ·walk_at "v"
     rw[cps_z,le_z]
     have e:nmL c=decide (c≤122):=by unfold nmL;rw[decide_eq_true g1,Bool.true_and]
     rw[← e];exact hY _ Ext.rfl'
    ·have e:nmL c=false:=by unfold nmL;rw[decide_eq_false g1,Bool.false_and]
     rw[← e];exact hY _ Ext.rfl'
   ·walk_at "v"
    refine r_all hacc ?_
    have e:nmV (.str z)=(z.cps.toList.map nmL).all id:=by
     show nmS z=_
     unfold nmS
     rw[show decide (1≤z.length)=true from decide_eq_true (by omega),show decide (z.length≤8)=true from decide_eq_true (by omega),List.all_map]
     rfl
    rw[← e];exact hq H2 e2
  | non=>cases (show k=.non from hk);(walk_at "v");exact hq H Ext.rfl'
  | bl b=>cases (show k=.bl from hk);(walk_at "v");exact hq H Ext.rfl'
  | int b=>cases (show k=.int from hk);(walk_at "v");exact hq H Ext.rfl'
  | ref b =>
   have e:(k == .str)=false:=by rcases hk with⟨_,_,rfl⟩ | ⟨_,_,rfl⟩ | ⟨_,_,rfl⟩ <;> rfl
   rw[e];(walk_at "v");exact hq H Ext.rfl'
  | _=>exact hk.elim
def j3p:Sp:=fun vs H Q _=>∃ (w:Addr) (x:Str),vs=[.ref w,.str x]∧nmS x=true∧∀ H',Ext H H'→Q (.bl true) H'
theorem j3q (T:Txt K mg a):FnOk P w K mg base (CXU P w) 2 a.f_z7 a.d_z7 ["self","thing"] (j3p):=by
 refine T.F_z7.okU sc_z7 (fun vs H Q E h=>?_) (fun cdv A outer s H vs Q E hr h=>?_)
 ·obtain⟨w,x,rfl,hx,hq⟩:=h
  rfl
 ·obtain⟨w,x,rfl,hx,hq⟩:=h
  refine⟨_,(j04 (j0b (j0g (j67 T) (hr.mono (by decide)) (by rfl) T.m_z28 T.F_z28.kp T.b_z28 .nil j0x (j00 (pv 1) j03)))),?_⟩
  walk_at "v"
  refine⟨.str x,.str,rfl,rfl,fun z ez=>by cases ez;exact⟨j63 hx,by have:=j8g hx;omega⟩,fun H1 e1=>?_⟩
  rw[show nmV (.str x)=true from hx]
  exact hq H1 e1
def j9e (a:Adr):Sp:=fun vs H Q _=>∃ (r:Addr) (row:List Str) (z:Int) (w:Str),vs=[.ref r,.str w]∧KeepAt a H r row z∧Names row∧nmS w=true∧∀ H',KeepAt a H' r (beh w row) (z+cst w row)→But r H H'→Q (.int (cst w row)) H'
theorem j4e (T:Txt K mg a):FnOk P w K mg base (CXU P w) 3 a.f_z24 a.d_z24 ["self","wish"] (j9e a):=by
 refine T.F_z24.okU jh4 (fun vs H Q E h=>?_) (fun cdv A outer s H vs Q E hr h=>?_)
 ·obtain⟨r,row,z,w,rfl,hB,hN,hw,hq⟩:=h
  rfl
 ·obtain⟨r,row,z,w,rfl,hB,hN,hw,hq⟩:=h
  have zc_Keeper:=T.cl_Keeper
  have zn_Keeper_row:=T.na_Keeper_row
  have zn_Keeper_world:=T.na_Keeper_world
  have zn_Keeper_standing:=T.na_Keeper_standing
  have zn_Keeper_spent:=T.na_Keeper_spent
  have zc_Store:=T.cl_Store
  have zn_Store_many:=T.na_Store_many
  refine⟨_,(j02 (j1u (j12 (ptT (j18 (j30 (pv 0) rfl) T.cl_Store T.me_Store_is_wish (j3q T) (hr.mono (by decide)) T.b_z7 .nil j0x (j00 (pv 1) j03)) (fun _=>rfl))) (j04 j4f) j0f)
   (j02 (j0q (i:=2) jh4.nd rfl (by first | exact Or.inl rfl | exact Or.inr rfl) (j18 (pv 0) T.cl_Keeper T.me_Keeper_target (j3o T) (hr.mono (by decide)) T.b_z5 .nil j0x (j00 (pv 1) j03)))
   (j02 (j0q (i:=3) jh4.nd rfl (by first | exact Or.inl rfl | exact Or.inr rfl) (j18 (pv 0) T.cl_Keeper T.me_Keeper_price_to (j3m T) (hr.mono (by decide)) T.b_z6 .nil j0x (j00 (pv 1) (j00 (pv 2) j03))))
   (j02 (j1z (j18 (pv 0) T.cl_Keeper T.me_Keeper_learn (j3x T) (hr.mono (by decide)) T.b_z9 .nil j0x (j00 (pv 1) j03)))
   (j02 (j5e (pv 0) (pv 2) rfl)
   (j02 (j5e (pv 0) (j1h j5o (j30 (pv 0) rfl) (pv 3)) rfl)
   (j04 (j0b (pv 3))))))))),?_⟩
  have g8:=hN.hi
  have gl:=(j8i hN hw).2
  obtain⟨dx,wo,dw,st,q,ss,k⟩:=hB.ex
  have h1:=k.hr
  have h2:=k.hw
  walk_at "v"
  refine⟨wo,w,rfl,hw,fun H1 e1=>?_⟩
  have k1:=k.ext e1
  have h11:=k1.hr
  walk_at "v"
  refine⟨r,row,z,w,rfl,⟨_,_,_,_,_,_,k1⟩,hN,hw,fun t s2 H2 p2 o2 q2 e2=>?_⟩
  have k2:=k1.ext e2
  have h12:=k2.hr
  have l2:=p2.length_eq
  walk_at "v"
  refine⟨r,t,row,s2,z,w,rfl,⟨_,_,_,_,_,_,k2⟩,q2,by omega,p2.mem_iff.mpr (jko w row),fun H3 e3=>?_⟩
  rw[jh9 hN.nd p2]
  have k3:=k2.ext e3
  have h13:=k3.hr
  walk_at "v"
  refine⟨r,dx,wo,dw,st,q,row,ss,z,w,rfl,k3,hN.lo,by omega,fun q4 H4 h4 q4' b4=>?_⟩
  walk_at "v"
  refine je6 h4 T.cl_Keeper T.na_Keeper_standing (j5n rfl) fun H5 h5 b5=>?_
  walk_at "v"
  refine je6 h5 T.cl_Keeper T.na_Keeper_spent (j5n rfl) fun H6 h6 b6=>?_
  walk_at "v"
  have nw:wo≠r:=(j58 h13 k3.hw (by intro z;injection z with _ _ z;exact absurd (congrArg List.length z) (by show 4≠1;decide))).symm
  have nt:t≠r:=j58 (e3 _ _ q2) h13 (by intro z;cases z)
  have nq:q4≠r:=j58 q4' h4 (by intro z;cases z)
  have b56:=b5.tr b6
  have b46:=b4.tr b56
  exact hq H6 ⟨dx,wo,dw,t,q4,s2,h6,by rw[gl];exact b46 _ _ nw k3.hw,b46 _ _ nt (e3 _ _ q2),b56 _ _ nq q4',p2,o2⟩ (Ext.toBut ((e1.tr e2).tr e3) b46)
def j7c:Sp:=fun vs H Q _=>∃ (p:Addr) (ss:List Str),vs=[.ref p]∧H p=some (.tup (ss.map V.str))∧(∀ s∈ss,nmS s=true)∧ss.Nodup∧ss.length≤1000∧∀ H',Ext H H'→Q (.bl true) H'
theorem j3r (T:Txt K mg a):FnOk P w K mg base (CXU P w) 2 a.f_z20 a.d_z20 ["thing"] (j7c):=by
 refine T.F_z20.okU sc_z20 (fun vs H Q E h=>?_) (fun cdv A outer s H vs Q E hr h=>?_)
 ·obtain⟨p,ss,rfl,hp,hn',hd,hl,hq⟩:=h
  rfl
 ·obtain⟨p,ss,rfl,hp,hn',hd,hl,hq⟩:=h
  refine⟨_,(j02 (j1u (PW.pt (j6f (j12 (ptT (j06 j57 (by rfl) T.n_isinstance PyProof.Rows.boot_isinstance (j00 (pv 0) (j00 (j0r (v:=V.ty "tuple") (by rfl) T.n_tuple PyProof.Rows.boot_tuple rfl) j03))) (fun _=>rfl))) (j2x (j12 (ptT (j06 (cAll rfl) (by rfl) T.n_all PyProof.Rows.boot_all (j00 (j1c (["name"]:List Str) ([]:List Str) [] rfl ⟨rfl,by decide +kernel,by decide +kernel,by rfl,trivial⟩ (j6h (pv 0)) (fun _ _ _ _=>⟨(j0d (i:=0) (by show ((["name"]:List Str)++([]:List Str)).Nodup;decide +kernel) rfl (by first | exact Or.inl rfl | exact Or.inr rfl)),(show PTs _ [] [] from trivial),(j0g (j67 T) (hr.mono (by decide)) (by rfl) T.m_z28 T.F_z28.kp T.b_z28 .nil j0x (j00 (pv 0) j03))⟩)) j03)) (fun _=>rfl)))))) (j04 (j0b j3z)) j0f)
   (j04 (j0b (j1i (oEq hr) (j7z rfl (by rfl) T.n_len (by rfl) T.n_set (j00 (pv 0) j03)) (j06 j2m (by rfl) T.n_len PySem.boot_len (j00 (pv 0) j03)) (j0o _))))),?_⟩
  walk_at "v"
  refine jhk (HasK.t hp) ?_
  walk_at "v"
  refine⟨p,rfl,⟨_,SqT.of hp⟩,fun acc hn _ _ _ _=>jd3 V.str V.bl (fun _=>true) (SqT.of hp) (by omega) hn (fun i x H2 Y hx e hY=>?_) fun H2 e ha=>?_⟩
  ·have hx':=hn' x (List.mem_of_getElem? hx)
   walk_at "v"
   refine⟨.str x,.str,rfl,rfl,fun z ez=>by cases ez;exact⟨j63 hx',by have:=j8g hx';omega⟩,fun H3 e3=>?_⟩
   rw[show nmV (.str x)=true from hx']
   exact hY _ e3
  walk_at "v"
  refine r_all ha ?_
  have ea:(ss.map fun _=>true).all id=true:=by rw[List.all_eq_true];intro x hx;obtain⟨_,_,rfl⟩:=List.mem_map.mp hx;rfl
  rw[ea]
  walk_at "v"
  refine jae (e _ _ hp) hl ?_
  walk_at "v"
  refine j24 (e _ _ hp) ?_
  rw[List.length_map,j5p hd]
  walk_at "v"
  rw[show decide ((ss.length:Int)=(ss.length:Int))=true from decide_eq_true rfl]
  exact hq H2 e
def j2o (a:Adr):Sp:=fun vs H Q _=>∃ (w dw p:Addr) (ss:List Str),vs=[.ref w,.ref p]∧H w=some (.ins a.c_Store dw [("many",.int (ss.length:Nat))])∧H p=some (.tup (ss.map V.str))∧Names ss∧sortedS ss=true∧∀ H',Ext H H'→Q (.bl true) H'
theorem j2p (T:Txt K mg a):FnOk P w K mg base (CXU P w) 3 a.f_z3 a.d_z3 ["self","thing"] (j2o a):=by
 refine T.F_z3.okU sc_z3 (fun vs H Q E h=>?_) (fun cdv A outer s H vs Q E hr h=>?_)
 ·obtain⟨w,dw,p,ss,rfl,hw,hp,hN,hso,hq⟩:=h
  rfl
 ·obtain⟨w,dw,p,ss,rfl,hw,hp,hN,hso,hq⟩:=h
  have zc_Keeper:=T.cl_Keeper
  have zn_Keeper_row:=T.na_Keeper_row
  have zn_Keeper_world:=T.na_Keeper_world
  have zn_Keeper_standing:=T.na_Keeper_standing
  have zn_Keeper_spent:=T.na_Keeper_spent
  have zc_Store:=T.cl_Store
  have zn_Store_many:=T.na_Store_many
  refine⟨_,(j04 (j0b (j59 (j0g (j3r T) (hr.mono (by decide)) (by rfl) T.m_z20 T.F_z20.kp T.b_z20 .nil j0x (j00 (pv 1) j03)) (j59 (j1i (oEq hr) (j06 j2m (by rfl) T.n_len PySem.boot_len (j00 (pv 1) j03)) (j30 (pv 0) rfl) (j0o _)) (j6g (j1i (oEq hr) (j0m jhi (by rfl) T.n_list PyProof.Rows.boot_list (j00 (pv 1) j03)) (j06 j6w (by rfl) T.n_sorted PyProof.Rows.boot_sorted (j00 (pv 1) j03)) (j0o _))))))),?_⟩
  have g8:=hN.hi
  walk_at "v"
  refine⟨p,ss,rfl,hp,hN.nm,hN.nd,by omega,fun H1 e1=>?_⟩
  have hw1:=e1 _ _ hw
  have hp1:=e1 _ _ hp
  walk_at "v"
  refine j24 hp1 ?_
  rw[List.length_map]
  walk_at "v"
  refine iteD (fun _=>?_) (fun q=>(q rfl).elim)
  walk_at "v"
  refine j7u hp1 fun l2 H2 n2 q2 e2=>?_
  walk_at "v"
  refine j38 (e2 _ _ hp1) (by omega) fun l3 s3 H3 n3 p3 o3 q3 e3=>?_
  have:s3=ss:=j16 p3 o3 hso
  subst this
  walk_at "v"
  refine r_eqD (j28 (e3 _ _ q2)) (j28 q3) (jhm hN.nm) (jhm hN.nm) (by show D.depthL (s3.map D.str)+1≤20;rw[depS];omega) ?_
  rw[jbr hN.nm]
  exact hq H3 ((e1.tr e2).tr e3)
def j7d (a:Adr):Sp:=fun vs H Q _=>∃ (x dx w dw p:Addr) (ss:List Str),vs=[.ref x,.ref w,.ref p]∧H x=some (.ins a.c_Keeper dx [])∧H w=some (.ins a.c_Store dw [("many",.int (ss.length:Nat))])∧H p=some (.tup (ss.map V.str))∧Names ss∧sortedS ss=true∧∀ H',H' x=some (.ins a.c_Keeper dx [("world",.ref w),("standing",.ref p),("spent",.int 0)])→But x H H'→Q .non H'
theorem j7e (T:Txt K mg a):FnOk P w K mg base (CXU P w) 4 a.f_z18 a.d_z18 ["self","world","start"] (j7d a):=by
 refine T.F_z18.okU sc_z18 (fun vs H Q E h=>?_) (fun cdv A outer s H vs Q E hr h=>?_)
 ·obtain⟨x,dx,w,dw,p,ss,rfl,hx,hw,hp,hN,hso,hq⟩:=h
  rfl
 ·obtain⟨x,dx,w,dw,p,ss,rfl,hx,hw,hp,hN,hso,hq⟩:=h
  have zc_Keeper:=T.cl_Keeper
  have zn_Keeper_row:=T.na_Keeper_row
  have zn_Keeper_world:=T.na_Keeper_world
  have zn_Keeper_standing:=T.na_Keeper_standing
  have zn_Keeper_spent:=T.na_Keeper_spent
  have zc_Store:=T.cl_Store
  have zn_Store_many:=T.na_Store_many
  refine⟨_,(j02 (j1u (j12 (ptT (j18 (pv 1) T.cl_Store T.me_Store_is_state (j2p T) (hr.mono (by decide)) T.b_z3 .nil j0x (j00 (pv 2) j03)) (fun _=>rfl))) (j04 j4f) j0f)
   (j02 (j5e (pv 0) (pv 1) rfl)
   (j02 (j5e (pv 0) (pv 2) rfl)
   (j04 (j5e (pv 0) j0c rfl))))),?_⟩
  walk_at "v"
  refine⟨w,dw,p,ss,rfl,hw,hp,hN,hso,fun H1 e1=>?_⟩
  walk_at "v"
  refine je6 (e1 _ _ hx) T.cl_Keeper T.na_Keeper_world (j5n rfl) fun H2 h2 b2=>?_
  walk_at "v"
  refine je6 h2 T.cl_Keeper T.na_Keeper_standing (j5n rfl) fun H3 h3 b3=>?_
  walk_at "v"
  refine je6 h3 T.cl_Keeper T.na_Keeper_spent (j5n rfl) fun H4 h4 b4=>?_
  exact hq H4 h4 (Ext.toBut e1 (But.tr (But.tr b2 b3) b4))
def j68 (a:Adr):Sp:=fun vs H Q _=>∃ x dx v,vs=[.ref x,v]∧H x=some (.ins a.c_Store dx [])∧∀ H',H' x=some (.ins a.c_Store dx [("many",v)])→But x H H'→Q .non H'
theorem j69 (T:Txt K mg a):FnOk P w K mg base (CXU P w) 1 a.f_z17 a.d_z17 ["self","many"] (j68 a):=by
 refine T.F_z17.okU sc_z17 (fun vs H Q E h=>?_) (fun cdv A outer s H vs Q E hr h=>?_)
 ·obtain⟨x,dx,v,rfl,hx,hq⟩:=h
  rfl
 ·obtain⟨x,dx,v,rfl,hx,hq⟩:=h
  have zc_Keeper:=T.cl_Keeper
  have zn_Keeper_row:=T.na_Keeper_row
  have zn_Keeper_world:=T.na_Keeper_world
  have zn_Keeper_standing:=T.na_Keeper_standing
  have zn_Keeper_spent:=T.na_Keeper_spent
  have zc_Store:=T.cl_Store
  have zn_Store_many:=T.na_Store_many
  refine⟨_,(j04 (j5e (pv 0) (pv 1) rfl)),?_⟩
  walk_at "v"
  refine je6 hx T.cl_Store T.na_Store_many (j5n rfl) fun H' h1 h2=>?_
  exact hq H' h1 h2
def j2j:Sp:=fun vs H Q _=>∃ (p:Addr) (ss:List Str),vs=[.ref p]∧H p=some (.tup (ss.map V.str))∧(∀ s∈ss,nmS s=true)∧ss.Nodup∧1≤ss.length∧ss.length≤8∧∀ H',Ext H H'→Q (.bl true) H'
theorem j2k (T:Txt K mg a):FnOk P w K mg base (CXU P w) 3 a.f_z2 a.d_z2 ["thing"] (j2j):=by
 refine T.F_z2.okU sc_z2 (fun vs H Q E h=>?_) (fun cdv A outer s H vs Q E hr h=>?_)
 ·obtain⟨p,ss,rfl,hp,hn',hd,l1,l8,hq⟩:=h
  rfl
 ·obtain⟨p,ss,rfl,hp,hn',hd,l1,l8,hq⟩:=h
  refine⟨_,(j04 (j0b (j59 (j0g (j3r T) (hr.mono (by decide)) (by rfl) T.m_z20 T.F_z20.kp T.b_z20 .nil j0x (j00 (pv 0) j03)) (j6g (j9n oLeW oLeW j0c (j06 j2m (by rfl) T.n_len PySem.boot_len (j00 (pv 0) j03)) j0c))))),?_⟩
  walk_at "v"
  refine⟨p,ss,rfl,hp,hn',hd,by omega,fun H1 e1=>?_⟩
  walk_at "v"
  refine j24 (e1 _ _ hp) ?_
  rw[List.length_map]
  walk_at "v"
  refine iteD (fun _=>?_) (fun q=>(q (by omega)).elim)
  walk_at "v"
  rw[decide_eq_true (show (ss.length:Int)≤8 by omega)]
  exact hq H1 e1
def j51 (a:Adr):Sp:=fun vs H Q _=>∃ (x dx p:Addr) (row:List Str),vs=[.ref x,.ref p]∧H x=some (.ins a.c_Keeper dx [])∧H p=some (.tup (row.map V.str))∧Names row∧∀ H',KeepAt a H' x row 0→But x H H'→Q .non H'
theorem j2c (T:Txt K mg a):FnOk P w K mg base (CXU P w) 6 a.f_z11 a.d_z11 ["self","pages"] (j51 a):=by
 refine T.F_z11.okU sc_z11 (fun vs H Q E h=>?_) (fun cdv A outer s H vs Q E hr h=>?_)
 ·obtain⟨x,dx,p,row,rfl,hx,hp,hN,hq⟩:=h
  rfl
 ·obtain⟨x,dx,p,row,rfl,hx,hp,hN,hq⟩:=h
  have zc_Keeper:=T.cl_Keeper
  have zn_Keeper_row:=T.na_Keeper_row
  have zn_Keeper_world:=T.na_Keeper_world
  have zn_Keeper_standing:=T.na_Keeper_standing
  have zn_Keeper_spent:=T.na_Keeper_spent
  have zc_Store:=T.cl_Store
  have zn_Store_many:=T.na_Store_many
  refine⟨_,(j02 (j1u (j12 (ptT (j0g (j2k T) (hr.mono (by decide)) (by rfl) T.m_z2 T.F_z2.kp T.b_z2 .nil j0x (j00 (pv 1) j03)) (fun _=>rfl))) (j04 j4f) j0f)
   (j02 (j1z (jfn (C:=a.c_Bound) (j7l (v:=V.ref a.c_Bound) (by rfl) T.m_Bound rfl) T.cm_Bound_init (j7e T) (hr.mono (by decide)) T.b_z18 .nil j0x (j00 (pv 0) (j00 (j9v T.mk_Store (j69 T) (hr.mono (by decide)) (by rfl) T.m_Store T.b_z17 .nil j0x (j00 (j06 j2m (by rfl) T.n_len PySem.boot_len (j00 (pv 1) j03)) j03)) (j00 (j0m ja4 (by rfl) T.n_tuple PyProof.Rows.boot_tuple (j00 (j06 j6w (by rfl) T.n_sorted PyProof.Rows.boot_sorted (j00 (pv 1) j03)) j03)) j03)))))
   (j04 (j5e (pv 0) (j0m jhi (by rfl) T.n_list PyProof.Rows.boot_list (j00 (pv 1) j03)) rfl)))),?_⟩
  have g8:=hN.hi
  walk_at "v"
  refine⟨p,row,rfl,hp,hN.nm,hN.nd,hN.lo,hN.hi,fun H1 e1=>?_⟩
  have hx1:=e1 _ _ hx
  have hp1:=e1 _ _ hp
  walk_at "v"
  refine j24 hp1 ?_
  rw[List.length_map]
  walk_at "v"
  intro w dw k1 k2 k3
  have nx:w≠x:=(j05 hx1 k1).symm
  refine⟨w,dw,_,rfl,j07,fun H2 h2 b2=>⟨rfl,?_⟩⟩
  have x2:Ext H1 H2:=fun b o hb=>b2 b o (j05 hb k1) (by rw[j08 (j05 hb k1),j08 (j05 hb k2)];exact hb)
  have hp2:=x2 _ _ hp1
  walk_at "v"
  refine j38 hp2 (by omega) fun l3 s3 H3 n3 p3 o3 q3 e3=>?_
  walk_at "v"
  refine j33 q3 fun t4 H4 n4 q4 e4=>?_
  have e34:=e3.tr e4
  have hx4:=e34 _ _ (x2 _ _ hx1)
  have hw4:=e34 _ _ h2
  have hp4:=e34 _ _ hp2
  walk_at "v"
  refine⟨x,dx,w,dw,t4,s3,rfl,hx4,by rw[p3.length_eq];exact hw4,q4,hN.perm p3,o3,fun H5 h5 b5=>?_⟩
  have np:p≠x:=j58 hp hx (by intro z;cases z)
  have hp5:=b5 _ _ np hp4
  walk_at "v"
  refine j7u hp5 fun l6 H6 n6 q6 e6=>?_
  walk_at "v"
  refine je6 (e6 _ _ h5) T.cl_Keeper T.na_Keeper_row (j5n rfl) fun H7 h7 b7=>?_
  have nt:t4≠x:=j58 q4 hx4 (by intro z;cases z)
  have nl:l6≠x:=(j05 h5 n6).symm
  exact hq H7 ⟨dx,w,dw,t4,l6,s3,h7,b7 _ _ nx (e6 _ _ (b5 _ _ nx hw4)),b7 _ _ nt (e6 _ _ (b5 _ _ nt q4)),b7 _ _ nl q6,p3,o3⟩ (Ext.toBut (e1.tr (x2.tr e34)) (b5.tr (Ext.toBut e6 b7)))
def j52:Sp:=fun vs H Q _=>∃ z:Str,vs=[.str z]∧nmS z=true∧∀ H',Ext H H'→Q (.bl true) H'
theorem j2d (T:Txt K mg a):FnOk P w K mg base (CXU P w) 1 a.f_z14 a.d_z14 ["_law_thing"] (j52):=by
 refine T.F_z14.okU sc_z14 (fun vs H Q E h=>?_) (fun cdv A outer s H vs Q E hr h=>?_)
 ·obtain⟨z,rfl,hz,hq⟩:=h
  rfl
 ·obtain⟨z,rfl,hz,hq⟩:=h
  refine⟨_,(j02 (j1u (PW.pt (j6f (j12 (ptT (j06 j57 (by rfl) T.n_isinstance PyProof.Rows.boot_isinstance (j00 (pv 0) (j00 (j0r (v:=V.ty "str") (by rfl) T.n_str PyProof.Rows.boot_str rfl) j03))) (fun _=>rfl))) (j6f (j0h (oEq hr) (pv 0) jce (j0o _)) (j2x (j0h op_gt (j06 j2m (by rfl) T.n_len PySem.boot_len (j00 (pv 0) j03)) j0c (j0o _)))))) (j04 (j0b j3z)) j0f)
   (j04 (j0b (j1i (oEq hr) (j06 j2m (by rfl) T.n_len PySem.boot_len (j00 (j1c (["_law_sign"]:List Str) ([]:List Str) [] rfl ⟨rfl,by decide +kernel,by decide +kernel,by rfl,trivial⟩ (jj9 (pv 0)) (fun _ _ _ _=>⟨(j0d (i:=0) (by show ((["_law_sign"]:List Str)++([]:List Str)).Nodup;decide +kernel) rfl (by first | exact Or.inl rfl | exact Or.inr rfl)),(show PTs _ [_] [_] from⟨(j0h op_inS (pv 0) jce (by with_unfolding_all rfl)),trivial⟩),(pv 0)⟩)) j03)) (j06 j2m (by rfl) T.n_len PySem.boot_len (j00 (pv 0) j03)) (j0o _))))),?_⟩
  have hl:=j8g hz
  have hc:∀ (i c:Nat),z.cps[i]?=some c→97≤c∧c≤122:=fun i c h=>by
   unfold nmS at hz
   rw[Bool.and_eq_true] at hz
   have:=List.all_eq_true.mp hz.2 c (by simpa using Array.mem_of_getElem? h)
   unfold nmL at this
   rw[Bool.and_eq_true,decide_eq_true_iff,decide_eq_true_iff] at this
   exact this
  have ne:z≠"":=fun e=>by rw[e] at hl;exact absurd hl.1 (by decide)
  walk_at "v"
  refine jhj (k:=.str) rfl ?_
  walk_at "v"
  refine jj3 ?_
  rw[decide_eq_false ne]
  walk_at "v"
  refine jaf (by omega) ?_
  walk_at "v"
  refine iteD (fun c=>absurd c (by omega)) (fun _=>?_)
  walk_at "v"
  refine⟨z,rfl,j63 hz,fun acc hn _ _ _ _=>jde (by show z.length≤1000000;omega) hn (fun j ys _=>ys.length=j) rfl (fun _ _ _ _ _ h=>h) (fun j ys H' _ h=>by omega) ?_ ?_⟩
  ·rintro i c ys H2 hic e hys Y N hY hN
   obtain⟨c0,c1⟩:=hc i c hic
   walk_at "v"
   refine r_inS ?_
   rw[abc_in c0 c1]
   walk_at "v"
   exact hY _ _ Ext.rfl' (by show (ys++[_]).length=i+1;rw[List.length_append,hys];rfl)
  ·rintro ys H2 e2 ha hys
   walk_at "v"
   refine j1q ha ?_
   rw[hys]
   walk_at "v"
   refine jaf (by omega) ?_
   walk_at "v"
   rw[decide_eq_true (show ((z.cps.size:Nat):Int)=(z.length:Int) from rfl)]
   exact hq H2 e2
def j3s:Sp:=fun vs H Q _=>∃ (p:Addr) (ss:List Str) (k:Int),vs=[.ref p,.int k]∧H p=some (.tup (ss.map V.str))∧(ss.length:Int)=k∧(∀ s∈ss,nmS s=true)∧ss.Nodup∧ss.length≤1000∧∀ H',Ext H H'→Q (.bl true) H'
theorem j1n (T:Txt K mg a):FnOk P w K mg base (CXU P w) 2 a.f_z8 a.d_z8 ["_law_thing","_law_many"] (j3s):=by
 refine T.F_z8.okU sc_z8 (fun vs H Q E h=>?_) (fun cdv A outer s H vs Q E hr h=>?_)
 ·obtain⟨p,ss,k,rfl,hp,hk,hn',hd,hl,hq⟩:=h
  rfl
 ·obtain⟨p,ss,k,rfl,hp,hk,hn',hd,hl,hq⟩:=h
  refine⟨_,(j02 (j1u (PW.pt (j6f (j12 (ptT (j06 j57 (by rfl) T.n_isinstance PyProof.Rows.boot_isinstance (j00 (pv 0) (j00 (j0r (v:=V.ty "tuple") (by rfl) T.n_tuple PyProof.Rows.boot_tuple rfl) j03))) (fun _=>rfl))) (j2x (j0h jlo (j06 j2m (by rfl) T.n_len PySem.boot_len (j00 (pv 0) j03)) (pv 1) (j0o _))))) (j04 (j0b j3z)) j0f)
   (j04 (j0b (j59 (j1i (oEq hr) (j06 j2m (by rfl) T.n_len PySem.boot_len (j00 (j1c (["_law_one"]:List Str) ([]:List Str) [] rfl ⟨rfl,by decide +kernel,by decide +kernel,by rfl,trivial⟩ (j6h (pv 0)) (fun _ _ _ _=>⟨(j0d (i:=0) (by show ((["_law_one"]:List Str)++([]:List Str)).Nodup;decide +kernel) rfl (by first | exact Or.inl rfl | exact Or.inr rfl)),(show PTs _ [_] [_] from⟨(ptT (j0g (j2d T) (hr.mono (by decide)) (by rfl) T.m_z14 T.F_z14.kp T.b_z14 .nil j0x (j00 (pv 0) j03)) (fun _=>rfl)),trivial⟩),(pv 0)⟩)) j03)) (pv 1) (j0o _)) (j6g (j1i (oEq hr) (j7z rfl (by rfl) T.n_len (by rfl) T.n_set (j00 (pv 0) j03)) (pv 1) (j0o _))))))),?_⟩
  walk_at "v"
  refine jhk (HasK.t hp) ?_
  walk_at "v"
  refine j24 hp ?_
  rw[List.length_map,hk]
  walk_at "v"
  refine iteN (fun c=>(c rfl).elim) (fun _=>?_)
  walk_at "v"
  refine⟨p,rfl,⟨_,SqT.of hp⟩,fun acc hn _ _ _ _=>j1v (SqT.of hp) (by rw[List.length_map];omega) hn (fun j ys _=>ys=(ss.take j).map V.str) (by simp) (fun _ _ _ _ _ h=>h) (fun j ys H' _ h=>by rw[h,List.length_map,List.length_take];omega) ?_ ?_⟩
  ·rintro j y ys H2 hy e rfl Y N hY hN
   obtain⟨y,ey,rfl⟩:=j1d hy
   walk_at "v"
   refine⟨y,rfl,hn' y (List.mem_of_getElem? ey),fun H3 e3=>?_⟩
   walk_at "v"
   refine hY _ _ e3 ?_
   rw[List.take_add_one,ey]
   simp
  ·rintro ys H2 e2 ha rfl
   rw[List.length_map,List.take_of_length_le (Nat.le_refl _)] at ha
   walk_at "v"
   refine j1q ha ?_
   rw[List.length_map,hk]
   walk_at "v"
   refine iteD (fun _=>?_) (fun c=>(c rfl).elim)
   walk_at "v"
   refine jae (e2 _ _ hp) hl ?_
   rw[j5p hd,hk]
   walk_at "v"
   rw[show decide (k=k)=true from decide_eq_true rfl]
   exact hq H2 e2
def j7f:Sp:=fun vs H Q _=>∃ (t e wl yl:Addr) (k m:Nat) (vs':List V) (Ys:List (List Str)),vs=[.ref t,.int (k:Nat),.int (m:Nat)]∧EnK H t e wl yl k m vs' Ys∧1≤k∧k≤8∧m≤1000∧∀ H',Ext H H'→Q (.bl true) H'
theorem j7g (T:Txt K mg a):FnOk P w K mg base (CXU P w) 3 a.f_z21 a.d_z21 ["_law_found","_law_k","_law_many"] (j7f):=by
 refine T.F_z21.okU jh5 (fun vs H Q E h=>?_) (fun cdv A outer s H vs Q E hr h=>?_)
 ·obtain⟨t,e,wl,yl,k,m,vs',Ys,rfl,hE,k1,k8,hm,hq⟩:=h
  rfl
 ·obtain⟨t,e,wl,yl,k,m,vs',Ys,rfl,hE,k1,k8,hm,hq⟩:=h
  refine⟨_,(j02 (j1u (PW.pt (j6f (j12 (ptT (j06 j57 (by rfl) T.n_isinstance PyProof.Rows.boot_isinstance (j00 (pv 0) (j00 (j0r (v:=V.ty "tuple") (by rfl) T.n_tuple PyProof.Rows.boot_tuple rfl) j03))) (fun _=>rfl))) (j6f (j0h (oNe hr) (j06 j2m (by rfl) T.n_len PySem.boot_len (j00 (pv 0) j03)) j0c (j0o _)) (j2x (j12 (ptT (j0g (j1n T) (hr.mono (by decide)) (by rfl) T.m_z8 T.F_z8.kp T.b_z8 .nil j0x (j00 (j4i oIx (pv 0) j0c (fun _ _=>rfl)) (j00 (pv 1) j03))) (fun _=>rfl))))))) (j04 (j0b j3z)) j0f)
   (j02 (j1u (PW.pt (j6f (j12 (ptT (j06 j57 (by rfl) T.n_isinstance PyProof.Rows.boot_isinstance (j00 (j4i oIx (pv 0) j0c (fun _ _=>rfl)) (j00 (j0r (v:=V.ty "list") (by rfl) T.n_list PyProof.Rows.boot_list rfl) j03))) (fun _=>rfl))) (j6f (j12 (ptT (j06 j57 (by rfl) T.n_isinstance PyProof.Rows.boot_isinstance (j00 (j4i oIx (pv 0) j0c (fun _ _=>rfl)) (j00 (j0r (v:=V.ty "list") (by rfl) T.n_list PyProof.Rows.boot_list rfl) j03))) (fun _=>rfl))) (j2x (j0h (oNe hr) (j06 j2m (by rfl) T.n_len PySem.boot_len (j00 (j4i oIx (pv 0) j0c (fun _ _=>rfl)) j03)) (pv 2) (j0o _)))))) (j04 (j0b j3z)) j0f)
   (j02 (j1u (PW.pt (j6f (j0h (oNe hr) (j06 j2m (by rfl) T.n_len PySem.boot_len (j00 (j1c (["_law_wish"]:List Str) ([]:List Str) [] rfl ⟨rfl,by decide +kernel,by decide +kernel,by rfl,trivial⟩ (j1p (j4i oIx (pv 0) j0c (fun _ _=>rfl))) (fun _ _ _ _=>⟨(j0d (i:=0) (by show ((["_law_wish"]:List Str)++([]:List Str)).Nodup;decide +kernel) rfl (by first | exact Or.inl rfl | exact Or.inr rfl)),(show PTs _ [_] [_] from⟨(ptT (j0g (j2d T) (hr.mono (by decide)) (by rfl) T.m_z14 T.F_z14.kp T.b_z14 .nil j0x (j00 (pv 0) j03)) (fun _=>rfl)),trivial⟩),(pv 0)⟩)) j03)) (pv 2) (j0o _)) (j2x (j0h (oNe hr) (j06 j2m (by rfl) T.n_len PySem.boot_len (j00 (j4i oIx (pv 0) j0c (fun _ _=>rfl)) j03)) (pv 2) (j0o _))))) (j04 (j0b j3z)) j0f)
   (j02 (j2y PassesOwn.never rfl (je8 rfl T.n_zip (j00 (j4i oIx (pv 0) j0c (fun _ _=>rfl)) (j00 (j4i oIx (pv 0) j0c (fun _ _=>rfl)) j03))) (j9j rfl (j0w (j0d (i:=3) jh5.nd rfl (by first | exact Or.inl rfl | exact Or.inr rfl)) (j0w (j0d (i:=4) jh5.nd rfl (by first | exact Or.inl rfl | exact Or.inr rfl)) j5a))) (j04 (j1u (PW.pt (j6f (j12 (ptT (j0g (j1n T) (hr.mono (by decide)) (by rfl) T.m_z8 T.F_z8.kp T.b_z8 .nil j0x (j00 (pv 4) (j00 (pv 1) j03))) (fun _=>rfl))) (j6f (j0h (oNe hr) (j0m jhi (by rfl) T.n_list PyProof.Rows.boot_list (j00 (pv 4) j03)) (j06 j6w (by rfl) T.n_sorted PyProof.Rows.boot_sorted (j00 (pv 4) j03)) (j0o _)) (j2x (j0h j8x (pv 3) (pv 4) (by with_unfolding_all rfl)))))) (j04 (j0b j3z)) j0f)))
   (j04 (j0b j3z)))))),?_⟩
  obtain⟨pn,pl,ps,pN,pt⟩:=j1w k k8
  obtain⟨hN,lN⟩:=j3k k1 k8
  obtain⟨lY,hY'⟩:=hE.at k8
  have lr:=hE.rr.length
  have ht:=hE.tt
  have hs:=hE.ss
  walk_at "v"
  refine jhk (HasK.t ht) ?_
  walk_at "v"
  refine j24 ht ?_
  walk_at "v"
  refine j6r ht (v:=.ref e) rfl ?_
  walk_at "v"
  refine⟨e,_,_,rfl,hs,by rw[lN],hN.nm,hN.nd,by omega,fun H1 e1=>?_⟩
  have E1:=hE.ext e1
  have ht1:=E1.tt
  walk_at "v"
  refine j6r ht1 (v:=.ref wl) rfl ?_
  walk_at "v"
  refine jis (HasK.l E1.ww) ?_
  walk_at "v"
  refine j6r ht1 (v:=.ref yl) rfl ?_
  walk_at "v"
  refine jis (HasK.l E1.yy) ?_
  walk_at "v"
  refine j6r ht1 (v:=.ref wl) rfl ?_
  walk_at "v"
  refine j1q E1.ww ?_
  rw[List.length_map,show (wssK (nmsK.take (k+1)) k m).length=m by simp]
  walk_at "v"
  refine iteN (fun c=>(c rfl).elim) (fun _=>?_)
  walk_at "v"
  refine j6r ht1 (v:=.ref wl) rfl ?_
  refine⟨wl,rfl,⟨_,SqL.of E1.ww⟩,fun acc hac _ _ _ _=>j22 (SqL.of E1.ww) (by simp;omega) hac (fun j ys _=>ys=((wssK (nmsK.take (k+1)) k m).take j).map V.str) (by simp) (fun _ _ _ _ _ h=>h) (fun j ys H' _ h=>by rw[h,List.length_map,List.length_take];omega) ?_ ?_⟩
  ·rintro j y ys H3 hy x3 rfl Y N hY hN'
   obtain⟨y,ey,rfl⟩:=j1d hy
   obtain⟨hj,ew⟩:=j8m ey
   walk_at "v"
   refine⟨y,rfl,by rw[ew];exact pN _ (j65 pl j),fun H4 e4=>?_⟩
   walk_at "v"
   refine hY _ _ e4 ?_
   rw[List.take_add_one,ey]
   simp
  rintro ys H2 e2 ha rfl
  rw[List.length_map,List.take_of_length_le (Nat.le_refl _)] at ha
  have E2:=E1.ext e2
  have ht2:=E2.tt
  walk_at "v"
  refine j1q ha ?_
  rw[List.length_map,show (wssK (nmsK.take (k+1)) k m).length=m by simp]
  walk_at "v"
  refine iteN (fun c=>(c rfl).elim) (fun _=>?_)
  walk_at "v"
  refine j6r ht2 (v:=.ref yl) rfl ?_
  walk_at "v"
  refine j1q E2.yy ?_
  rw[lr,lY]
  walk_at "v"
  refine iteN (fun c=>(c rfl).elim) (fun _=>?_)
  walk_at "v"
  refine j6r ht2 (v:=.ref wl) rfl ?_
  walk_at "v"
  refine j6r ht2 (v:=.ref yl) rfl ?_
  walk_at "v"
  refine⟨wl,yl,_,_,false,false,rfl,SqL.of E2.ww,SqL.of E2.yy,j6t (fun i σ H4=>(∃ (u1 u2:Option V),σ=[some (.ref t),some (.int (k:Nat)),some (.int (m:Nat)),u1,u2])∧Ext H2 H4) (by simp;omega) ⟨⟨none,none,rfl⟩,Ext.rfl'⟩ (fun i σ H4 _ ⟨_,x⟩=>⟨SqL.of (x _ _ E2.ww),SqL.of (x _ _ E2.yy)⟩) ?_ ?_⟩
  ·rintro i x y σ H4 p5 hx hy4 ⟨⟨u1,u2,rfl⟩,x4⟩ n5
   obtain⟨H5,eH5,q5',e5⟩:∃ H5,upd H4 p5 (.tup [x,y])=H5∧H5 p5=some (.tup [x,y])∧Ext H4 H5:=⟨_,rfl,j07,j0j n5⟩
   rw[eH5]
   obtain⟨x,ex,rfl⟩:=j1d hx
   obtain⟨hi,rfl⟩:=j8m ex
   obtain⟨c,rfl,hc⟩:=E2.rr.get i y hy4
   obtain⟨sY,wY⟩:=hY' i hi
   generalize hYi:Ys.getD i []=Yi at *
   have hc5:=(x4.tr e5) _ _ hc
   have nmY:∀ s∈Yi,nmS s=true:=fun s hs=>pN s (sY.sub s hs)
   have lnY:=sY.ln
   refine jcu q5' rfl ?_
   walk_at "v"
   refine⟨c,Yi,_,rfl,hc5,by rw[lnY],nmY,sY.nd,by omega,fun H6 e6=>?_⟩
   have hc6:=e6 _ _ hc5
   walk_at "v"
   refine j7u hc6 fun l7 H7 n7 q7 e7=>?_
   walk_at "v"
   refine j38 (e7 _ _ hc6) (by omega) fun l8 s8 H8 n8 p8 o8 q8 e8=>?_
   have:s8=Yi:=j16 p8 o8 sY.so
   subst this
   walk_at "v"
   refine r_neD (j28 (e8 _ _ q7)) (j28 q8) (jhm nmY) (jhm nmY) (by show D.depthL (s8.map D.str)+1≤20;rw[depS];omega) ?_
   rw[jbr nmY]
   walk_at "v"
   refine j37 ((e7.tr e8) _ _ hc6) rfl (j1a _) ?_
   rw[j1m,decide_eq_true wY]
   walk_at "v"
   exact⟨⟨_,_,rfl⟩,(x4.tr e5).tr (e6.tr (e7.tr e8))⟩
  ·rintro σ H4 ⟨⟨u1,u2,rfl⟩,x4⟩
   walk_at "v"
   exact hq H4 (e1.tr (e2.tr x4))
def jby (a:Adr):Sp:=fun vs H Q _=>∃ (t e wl yl:Addr) (k m:Nat) (vs':List V) (Ys:List (List Str)),vs=[.ref t,.int (k:Nat),.int (m:Nat)]∧EnK H t e wl yl k m vs' Ys∧1≤k∧k≤8∧1≤m∧m≤1000∧∀ H',Ext H H'→Q (.bl true) H'
theorem j3t (T:Txt K mg a):FnOk P w K mg base (CXU P w) 8 a.f_z30 a.d_z30 ["_law_found","_law_k","_law_many"] (jby a):=by
 refine T.F_z30.okU j97 (fun vs H Q E h=>?_) (fun cdv A outer s H vs Q E hr h=>?_)
 ·obtain⟨t,e,wl,yl,k,m,vs',Ys,rfl,hE,k1,k8,m1,hm,hq⟩:=h
  rfl
 ·obtain⟨t,e,wl,yl,k,m,vs',Ys,rfl,hE,k1,k8,m1,hm,hq⟩:=h
  have zc_Keeper:=T.cl_Keeper
  have zn_Keeper_row:=T.na_Keeper_row
  have zn_Keeper_world:=T.na_Keeper_world
  have zn_Keeper_standing:=T.na_Keeper_standing
  have zn_Keeper_spent:=T.na_Keeper_spent
  have zc_Store:=T.cl_Store
  have zn_Store_many:=T.na_Store_many
  refine⟨_,(j02 (j1u (j12 (ptT (j0g (j7g T) (hr.mono (by decide)) (by rfl) T.m_z21 T.F_z21.kp T.b_z21 .nil j0x (j00 (pv 0) (j00 (pv 1) (j00 (pv 2) j03)))) (fun _=>rfl))) (j04 (j0b j3z)) j0f)
   (j02 (jhr (pv 0) (j9j rfl (j0w (j0d (i:=3) j97.nd rfl (by first | exact Or.inl rfl | exact Or.inr rfl)) (j0w (j0d (i:=4) j97.nd rfl (by first | exact Or.inl rfl | exact Or.inr rfl)) (j0w (j0d (i:=5) j97.nd rfl (by first | exact Or.inl rfl | exact Or.inr rfl)) j5a)))))
   (j02 (j0q (i:=6) j97.nd rfl (by first | exact Or.inl rfl | exact Or.inr rfl) (j9v T.mk_Keeper (j2c T) (hr.mono (by decide)) (by rfl) T.m_Keeper T.b_z11 .nil j0x (j00 (pv 3) j03)))
   (j02 (j2y PassesOwn.never rfl (j1p (pv 4)) (j0d (i:=7) j97.nd rfl (by first | exact Or.inl rfl | exact Or.inr rfl)) (j04 (j1z (j18 (pv 6) T.cl_Keeper T.me_Keeper_pay (j4e T) (hr.mono (by decide)) T.b_z24 .nil j0x (j00 (pv 7) j03)))))
   (j02 (j1u (PW.pt (j6f (j0h jlo (j0g (j9d T) (hr.mono (by decide)) (by rfl) T.m_z25 T.F_z25.kp T.b_z25 .nil j0x (j00 (pv 3) (j00 (pv 4) j03))) (pv 2) (j0o _)) (j2x (j12 (ptT (j0g (j4d T) (hr.mono (by decide)) (by rfl) T.m_z27 T.F_z27.kp T.b_z27 .nil j0x (j00 (j9u (pv 6) T.cl_Keeper T.me_Keeper_paid (j7b T) (hr.mono (by decide)) T.b_z19 .nil j0x) (j00 (pv 2) j03))) (fun _=>rfl)))))) (j04 (j0b j3z)) j0f)
   (j04 (j0b (j1i oLeW (j1h jhl (pv 1) (j0g (j9b T) (hr.mono (by decide)) (by rfl) T.m_z26 T.F_z26.kp T.b_z26 .nil j0x (j00 (j0m ja4 (by rfl) T.n_tuple PyProof.Rows.boot_tuple (j00 (j06 j6w (by rfl) T.n_sorted PyProof.Rows.boot_sorted (j00 (pv 3) j03)) j03)) (j00 (pv 5) j03)))) (j1h j8r (j1h j5o (pv 2) (pv 1)) j0c) (j0o _))))))))),?_⟩
  obtain⟨pn,pl,ps,pN,pt⟩:=j1w k k8
  obtain⟨hN,lN⟩:=j3k k1 k8
  obtain⟨lY,hY'⟩:=hE.at k8
  have e0:nmsK.take k=rowK (nmsK.take (k+1)) k 0:=by rw[j29 pl,pt]
  have bound:(k:Int) * jbv (stK (nmsK.take (k+1)) k 0) Ys≤(m:Int)+k-1:=by
   obtain⟨c,w1,w2⟩:=hE.wy
   rw[jhe w1]
   have h1:=w2 _ _ (wayK pn pl ps k1 m).1
   have h2:=csK_le k1 m m1
   have h3:(k:Int) * c≤(k:Int) * csK k m:=Int.mul_le_mul_of_nonneg_left h1 (by omega)
   omega
  walk_at "v"
  refine⟨t,e,wl,yl,k,m,vs',Ys,rfl,hE,k1,k8,hm,fun H1 e1=>?_⟩
  have E1:=hE.ext e1
  have ht1:=E1.tt
  walk_at "v"
  intro r dr k1' k2 k3
  have y1:Ext H1 (upd (upd H1 dr (.own r)) r (.ins a.c_Keeper dr [])):=fun b o hb=>by rw[j08 (j05 hb k1'),j08 (j05 hb k2)];exact hb
  refine⟨r,dr,e,nmsK.take k,rfl,j07,y1 _ _ E1.ss,hN,fun H2 B2 b2=>⟨rfl,?_⟩⟩
  have x12:Ext H1 H2:=fun b o h=>b2 b o (j05 h k1') (y1 _ _ h)
  rw[e0] at B2
  walk_at "v"
  refine⟨wl,rfl,⟨_,SqL.of (x12 _ _ E1.ww)⟩,j2z (xs:=(wssK (nmsK.take (k+1)) k m).map V.str) (fun i σ H3=>(∃ (u1:Option V),σ=[some (.ref t),some (.int (k:Nat)),some (.int (m:Nat)),some (.ref e),some (.ref wl),some (.ref yl),some (.ref r),u1])∧Ext H1 H3∧KeepAt a H3 r (rowK (nmsK.take (k+1)) k i) (i:Nat)) ⟨⟨none,rfl⟩,x12,B2⟩ (fun i σ H3 _ ⟨_,x,_⟩=>SqL.of (x _ _ E1.ww)) ?_ ?_⟩
  ·rintro i x σ H3 hx ⟨⟨u1,rfl⟩,x3,B3⟩
   obtain⟨x,ex,rfl⟩:=j1d hx
   obtain⟨hi,rfl⟩:=j8m ex
   obtain⟨dx,wo,dw,st,q,ss,kk⟩:=B3.ex
   have h1:=kk.hr
   walk_at "v"
   refine⟨r,_,_,wsK (nmsK.take (k+1)) k i,rfl,B3,j2a pn pl k1 k8 pN i,pN _ (j65 pl i),fun H4 B4 b4=>?_⟩
   rw[(j76 pn pl k1 i).1,(j76 pn pl k1 i).2] at B4
   walk_at "v"
   exact⟨⟨_,rfl⟩,Ext.but x3 b4 k1',B4⟩
  ·rintro σ H3 ⟨⟨u1,rfl⟩,x3,B3⟩
   rw[List.length_map,show (wssK (nmsK.take (k+1)) k m).length=m by simp] at B3
   have E3:=E1.ext x3
   walk_at "v"
   refine⟨e,wl,k,m,rfl,E3.ss,E3.ww,k1,k8,hm,fun H4 e4=>?_⟩
   walk_at "v"
   refine iteN (fun c=>(c rfl).elim) (fun _=>?_)
   have B4:=B3.ext e4
   obtain⟨dx,wo,dw,st,q,ss,kk⟩:=B4.ex
   have h1:=kk.hr
   walk_at "v"
   refine⟨r,_,_,rfl,B4,?_⟩
   walk_at "v"
   refine jbw (d:=.int _) .intI .intI rfl rfl fun H5 e5=>?_
   have E5:=E3.ext (e4.tr e5)
   have hs5:=E5.ss
   walk_at "v"
   refine j38 hs5 (by omega) fun l6 s6 H6 n6 p6 o6 q6 e6=>?_
   walk_at "v"
   refine j33 q6 fun t7 H7 n7 q7 e7=>?_
   have es6:s6=stK (nmsK.take (k+1)) k 0:=j4z pn pl ps (by rw[pt];exact p6) o6
   have E7:=E5.ext (e6.tr e7)
   walk_at "v"
   refine⟨t7,yl,s6,vs',Ys,rfl,q7,E7.yy,E7.rr,fun i hi=>by have:=(hY' i (by omega)).1.ln;omega,fun H8 e8=>?_⟩
   rw[es6]
   walk_at "v"
   rw[decide_eq_true (show (k:Int) * jbv (stK (nmsK.take (k+1)) k 0) Ys≤(m:Int)+k-1 from bound)]
   exact hq H8 (e1.tr (x3.tr (e4.tr (e5.tr ((e6.tr e7).tr e8)))))
def j3y (a:Adr):Sp:=fun us H Q _=>∃ (r dw b p:Addr) (m:V) (ss:List Str) (vs:List V) (Ls:List (List Str)) (w:Str),us=[.ref r,.ref b,.str w,.ref p]∧H r=some (.ins a.c_Store dw [("many",m)])∧H b=some (.tup (ss.map V.str))∧H p=some (.lst vs)∧RefsHT H vs Ls∧vs.length≤18∧(∀ L∈Ls,L.length≤1000∧w∈L) ∧
 ∀ l ys (Ms:List (List Str)) H',H l=none→H' l=some (.lst ys)→PairsHT H' ys (Ms.map (prL ss))→Ms.Pairwise (fun a b=>cpm a < cpm b)→(∀ L,L∈Ms↔L∈Ls)→Ms.length≤18→Ext H H'→Q (.ref l) H'
theorem j1t (T:Txt K mg a):FnOk P w K mg base (CXU P w) 2 a.f_z10 a.d_z10 ["self","before","wish","states"] (j3y a):=by
 refine T.F_z10.okU jke (fun vs H Q E h=>?_) (fun cdv A outer s H vs Q E hr h=>?_)
 ·obtain⟨r,dw,b,p,m,ss,vs,Ls,w,rfl,hr0,hb,hp,hrf,h18,hL,hq⟩:=h
  rfl
 ·obtain⟨r,dw,b,p,m,ss,vs,Ls,w,rfl,hr0,hb,hp,hrf,h18,hL,hq⟩:=h
  have zc_Keeper:=T.cl_Keeper
  have zn_Keeper_row:=T.na_Keeper_row
  have zn_Keeper_world:=T.na_Keeper_world
  have zn_Keeper_standing:=T.na_Keeper_standing
  have zn_Keeper_spent:=T.na_Keeper_spent
  have zc_Store:=T.cl_Store
  have zn_Store_many:=T.na_Store_many
  refine⟨_,(j02 (ja7 (i:=4) (["after"]:List Str) (["self","before","wish"]:List Str) [0,1,2] jke.nd rfl (Or.inl rfl) rfl ⟨rfl,by decide +kernel,by decide +kernel,by rfl,⟨⟨rfl,by first | exact Or.inl rfl | exact Or.inr rfl,by first | exact Or.inl rfl | exact Or.inr rfl⟩,⟨rfl,by first | exact Or.inl rfl | exact Or.inr rfl,by first | exact Or.inl rfl | exact Or.inr rfl⟩,⟨rfl,by first | exact Or.inl rfl | exact Or.inr rfl,by first | exact Or.inl rfl | exact Or.inr rfl⟩,trivial⟩⟩ (j1p (j71 hr rfl (by rfl) T.n_sorted (by rfl) T.n_set (j00 (pv 3) j03))) (fun _ _ _ _=>⟨(j0d (i:=0) (by show ((["after"]:List Str)++(["self","before","wish"]:List Str)).Nodup;decide +kernel) rfl (by first | exact Or.inl rfl | exact Or.inr rfl)),(show PTs _ [] [] from trivial),(j6i (j00 (pv 0) (j00 (j18 (pv 1) T.cl_Store T.me_Store_price (j2b T) (hr.mono (by decide)) T.b_z13 .nil j0x (j00 (pv 2) (j00 (pv 3) (j00 (pv 0) j03)))) j03)))⟩))
   (j04 (j0b (j1c (["pair"]:List Str) ([]:List Str) [] rfl ⟨rfl,by decide +kernel,by decide +kernel,by rfl,trivial⟩ (j1p (pv 4)) (fun _ _ _ _=>⟨(j0d (i:=0) (by show ((["pair"]:List Str)++([]:List Str)).Nodup;decide +kernel) rfl (by first | exact Or.inl rfl | exact Or.inr rfl)),(show PTs _ [_] [_] from⟨(j0h oNotN (j4i oIx (pv 0) j0c (fun _ _=>rfl)) j9i (j0o _)),trivial⟩),(pv 0)⟩))))),?_⟩
  walk_at "v"
  refine j95 hp hrf h18 (fun L hL'=>?_) fun lq H1 vs' Ms n1 q1 e1 rf pw mm l18=>?_
  ·intro z
   have:=(hL L hL').2
   rw[z] at this
   simp at this
  have hr1:=e1 _ _ hr0
  have hb1:=e1 _ _ hb
  have lv:=rf.length
  refine⟨lq,rfl,⟨_,SqL.of q1⟩,fun acc hn _ _ _ _=>j22 (SqL.of q1) (by omega) hn (fun j ys H2=>PairsHT H2 ys ((Ms.take j).map (prL ss))) .nil (fun _ _ _ _ k h=>PairsHT.keep k h) (fun j ys H' _ h=>by have:=h.length;rw[List.length_map,List.length_take] at this;omega) ?_ ?_⟩
  ·rintro j y ys H2 hy e hrep Y N hY hN
   obtain⟨c,rfl,hc⟩:=rf.get j y hy
   have hj:j < Ms.length:=by
    obtain⟨z,_⟩:=List.getElem?_eq_some_iff.mp hy
    omega
   have hM:Ms.getD j []∈Ms:=by rw[List.getD_eq_getElem?_getD,List.getElem?_eq_getElem hj];exact List.getElem_mem hj
   obtain⟨g1,g2⟩:=hL _ ((mm _).mp hM)
   walk_at "v"
   refine⟨r,b,c,ss,Ms.getD j [],w,rfl,e _ _ hb1,e _ _ hc,g1,fun H3 e3=>?_⟩
   rw[show prS ss (Ms.getD j []) w=.int (((Ms.getD j []).filter fun t=>!decide (t∈ss)).length:Nat) from if_pos g2]
   walk_at "v"
   intro q H4 nq qq eq
   refine hY _ _ (e3.tr eq) ?_
   have et:(Ms.take (j+1)).map (prL ss)=(Ms.take j).map (prL ss)++[(Ms.getD j [],((((Ms.getD j []).filter fun t=>!decide (t∈ss)).length:Nat):Int))]:=by
    rw[List.take_add_one,List.getElem?_eq_getElem hj,List.map_append,List.getD_eq_getElem?_getD,List.getElem?_eq_getElem hj]
    rfl
   rw[et]
   exact PairsHT.snoc qq ((e.tr (e3.tr eq)) _ _ hc) (hrep.mono (e3.tr eq))
  rintro ys H2 e2 ha hrep
  rw[List.take_of_length_le (by omega)] at hrep
  have hl:=hrep.length
  rw[List.length_map] at hl
  walk_at "v"
  refine⟨acc,rfl,⟨_,SqL.of ha⟩,fun acc2 hn2 _ _ _ _=>j22 (SqL.of ha) (by omega) hn2 (fun j zs _=>zs=ys.take j) rfl (fun _ _ _ _ _ h=>h) (fun j ys H' _ h=>by rw[h,List.length_take];omega) ?_ ?_⟩
  ·rintro j y zs H3 hy e rfl Y N hY hN
   obtain⟨c,a',rfl,g,_⟩:=PairsHT.get hrep j y hy
   walk_at "v"
   refine j6r (e _ _ g) rfl ?_
   walk_at "v"
   exact hY _ _ Ext.rfl' (by rw[List.take_add_one,hy];rfl)
  rintro zs H3 e3 ha2 rfl
  rw[List.take_of_length_le (Nat.le_refl _)] at ha2
  have x2:=e1.tr e2
  exact hq acc2 _ Ms H3 (x2.free hn2) ha2 (hrep.mono e3) pw mm l18 (x2.tr e3)
def jbz:Sp:=fun vs H Q _=>∃ (p:Addr) (ss:List Str) (g w:Str),vs=[.ref p,.str g,.str w]∧H p=some (.tup (ss.map V.str))∧ss.length≤60∧∀ l L H',Swp ss g w L→H' l=some (.tup (L.map V.str))→Ext H H'→Q (.ref l) H'
theorem jc0 (T:Txt K mg a):FnOk P w K mg base (CXU P w) 1 a.f_z34 a.d_z34 ["pages","gone","wish"] (jbz):=by
 refine T.F_z34.okU sc_z34 (fun vs H Q E h=>?_) (fun cdv A outer s H vs Q E hr h=>?_)
 ·obtain⟨p,ss,g,w,rfl,hp,hl,hq⟩:=h
  rfl
 ·obtain⟨p,ss,g,w,rfl,hp,hl,hq⟩:=h
  refine⟨_,(j04 (j0b (j0m ja4 (by rfl) T.n_tuple PyProof.Rows.boot_tuple (j00 (j06 j6w (by rfl) T.n_sorted PyProof.Rows.boot_sorted (j00 (j1h j5o (j1c (["page"]:List Str) (["gone"]:List Str) [1] rfl ⟨rfl,by decide +kernel,by decide +kernel,by rfl,⟨⟨rfl,by first | exact Or.inl rfl | exact Or.inr rfl,by first | exact Or.inl rfl | exact Or.inr rfl⟩,trivial⟩⟩ (j6h (pv 0)) (fun _ _ _ _=>⟨(j0d (i:=0) (by show ((["page"]:List Str)++(["gone"]:List Str)).Nodup;decide +kernel) rfl (by first | exact Or.inl rfl | exact Or.inr rfl)),(show PTs _ [_] [_] from⟨(j0h (oNe hr) (pv 0) (pv 1) (j0o _)),trivial⟩),(pv 0)⟩)) (j5f (j00 (pv 2) j03))) j03)) j03)))),?_⟩
  walk_at "v"
  refine⟨p,rfl,⟨_,SqT.of hp⟩,fun acc hn _ _ _ _=>j1v (SqT.of hp) (by rw[List.length_map];omega) hn (fun j ys _=>ys=((ss.take j).filter fun t=>!decide (t=g)).map V.str) (by simp) (fun _ _ _ _ _ h=>h) (fun j ys H' _ h=>by rw[h,List.length_map];exact Nat.le_trans (List.length_filter_le _ _) (by rw[List.length_take];omega)) ?_ ?_⟩
  ·rintro j y ys H2 hy e rfl Y N hY hN
   obtain⟨y,ey,rfl⟩:=j1d hy
   have et:ss.take (j+1)=ss.take j++[y]:=by rw[List.take_add_one,ey];rfl
   walk_at "v"
   refine jfx ?_
   walk_at "v"
   refine iteN (fun h=>?_) (fun h=>?_)
   ·walk_at "v"
    refine hY _ _ Ext.rfl' ?_
    rw[et,List.filter_append,List.filter_cons,if_pos (by simp[h]),List.map_append]
    rfl
   ·walk_at "v"
    refine hN _ Ext.rfl' ?_
    rw[et,List.filter_append,List.filter_cons,if_neg (by simp[h]),List.filter_nil,List.append_nil]
  ·rintro ys H2 e2 ha rfl
   rw[List.length_map,List.take_of_length_le (Nat.le_refl _)] at ha
   walk_at "v"
   intro p3 H3 n3 q3 e3
   have zl:=List.length_filter_le (fun t=>!decide (t=g)) ss
   walk_at "v"
   refine j80 (e3 _ _ ha) q3 (by simp only[List.length_map,List.length_cons,List.length_nil];omega) fun q4 H4 n4 h4 e4=>?_
   rw[show ((ss.filter fun t=>!decide (t=g)).map V.str++[V.str w])=((ss.filter fun t=>!decide (t=g))++[w]).map V.str by rw[List.map_append];rfl] at h4
   walk_at "v"
   refine jag h4 (by simp only[List.length_append,List.length_cons,List.length_nil];omega) fun l5 s5 H5 n5 p5 o5 q5 e5=>?_
   walk_at "v"
   refine j33 q5 fun l6 H6 n6 q6 e6=>?_
   exact hq l6 s5 H6 ⟨p5,o5⟩ q6 ((((e2.tr e3).tr e4).tr e5).tr e6)
def j53 (a:Adr):Sp:=fun us H Q _=>∃ (r dw b:Addr) (m:V) (ss:List Str) (w:Str),us=[.ref r,.ref b,.str w]∧H r=some (.ins a.c_Store dw [("many",m)])∧H b=some (.tup (ss.map V.str))∧ss.length≤18 ∧
 ∀ l ys (Ms:List (List Str)) H',H l=none→H' l=some (.lst ys)→PairsHT H' ys (Ms.map (prL ss))→Ms.Pairwise (fun a b=>cpm a < cpm b)→(∀ L,L∈Ms↔GoS ss w L)→Ms.length≤18→Ext H H'→Q (.ref l) H'
theorem j54 (T:Txt K mg a):FnOk P w K mg base (CXU P w) 3 a.f_z12 a.d_z12 ["self","before","wish"] (j53 a):=by
 refine T.F_z12.okU sc_z12 (fun vs H Q E h=>?_) (fun cdv A outer s H vs Q E hr h=>?_)
 ·obtain⟨r,dw,b,m,ss,w,rfl,hr0,hb,l2,hq⟩:=h
  rfl
 ·obtain⟨r,dw,b,m,ss,w,rfl,hr0,hb,l2,hq⟩:=h
  have zc_Keeper:=T.cl_Keeper
  have zn_Keeper_row:=T.na_Keeper_row
  have zn_Keeper_world:=T.na_Keeper_world
  have zn_Keeper_standing:=T.na_Keeper_standing
  have zn_Keeper_spent:=T.na_Keeper_spent
  have zc_Store:=T.cl_Store
  have zn_Store_many:=T.na_Store_many
  refine⟨_,(j02 (j1u (j0h oIn (pv 2) (pv 1) (by with_unfolding_all rfl)) (j04 (j0b (j18 (pv 0) T.cl_Store T.me_Store_priced (j1t T) (hr.mono (by decide)) T.b_z10 .nil j0x (j00 (pv 1) (j00 (pv 2) (j00 (j5f (j00 (pv 1) j03)) j03)))))) j0f)
   (j04 (j0b (j18 (pv 0) T.cl_Store T.me_Store_priced (j1t T) (hr.mono (by decide)) T.b_z10 .nil j0x (j00 (pv 1) (j00 (pv 2) (j00 (j1c (["gone"]:List Str) (["before","wish"]:List Str) [1,2] rfl ⟨rfl,by decide +kernel,by decide +kernel,by rfl,⟨⟨rfl,by first | exact Or.inl rfl | exact Or.inr rfl,by first | exact Or.inl rfl | exact Or.inr rfl⟩,⟨rfl,by first | exact Or.inl rfl | exact Or.inr rfl,by first | exact Or.inl rfl | exact Or.inr rfl⟩,trivial⟩⟩ (j6h (pv 1)) (fun _ _ _ _=>⟨(j0d (i:=0) (by show ((["gone"]:List Str)++(["before","wish"]:List Str)).Nodup;decide +kernel) rfl (by first | exact Or.inl rfl | exact Or.inr rfl)),(show PTs _ [] [] from trivial),(j0g (jc0 T) (hr.mono (by decide)) (by rfl) T.m_z34 T.F_z34.kp T.b_z34 .nil j0x (j00 (pv 1) (j00 (pv 0) (j00 (pv 2) j03))))⟩)) j03))))))),?_⟩
  walk_at "v"
  refine r_inT hb rfl (j1a _) ?_
  rw[j1m]
  walk_at "v"
  refine iteD (fun hw=>?_) (fun hw=>?_)
  ·walk_at "v"
   intro lp H1 n1 q1 e1
   walk_at "v"
   refine⟨r,dw,b,lp,m,ss,_,[ss],w,rfl,e1 _ _ hr0,e1 _ _ hb,q1,.cons (e1 _ _ hb) .nil,by simp,fun L hL=>?_,fun l ys Ms H2 n2 q2 p2 pw mm l18 e2=>?_⟩
   ·rw[List.mem_singleton.mp hL];exact⟨by omega,hw⟩
   ·refine hq l ys Ms H2 (e1.free n2) q2 p2 pw (fun L=>?_) l18 (e1.tr e2)
    rw[mm,List.mem_singleton]
    exact⟨fun z=>.inl ⟨hw,z⟩,fun z=>z.elim (fun y=>y.2) fun y=>absurd hw y.1⟩
  ·walk_at "v"
   refine⟨b,rfl,⟨_,SqT.of hb⟩,fun acc hn _ _ _ _=>j1v (SqT.of hb) (by rw[List.length_map];omega) hn (fun j ys H2=>∃ Ls:List (List Str),RefsHT H2 ys Ls∧Ls.length=j∧∀ i,i < j→Swp ss (ss.getD i ⟨#[]⟩) w (Ls.getD i [])) ⟨[],.nil,rfl,fun i hi=>by omega⟩ (fun _ _ _ _ k h=>?_) (fun j ys H' _ h=>?_) ?_ ?_⟩
   ·obtain⟨Ls,h1,h2,h3⟩:=h
    exact⟨Ls,RefsHT.keep k h1,h2,h3⟩
   ·obtain⟨Ls,h1,h2,h3⟩:=h
    have:=h1.length
    omega
   ·rintro j y ys H2 hy e ⟨Ls,h1,h2,h3⟩ Y N hY hN
    obtain⟨y,ey,rfl⟩:=j1d hy
    have gy:ss.getD j ⟨#[]⟩=y:=by rw[List.getD_eq_getElem?_getD,ey];rfl
    walk_at "v"
    refine⟨b,ss,y,w,rfl,e _ _ hb,by omega,fun l ms H3 hs q3 e3=>?_⟩
    refine hY _ _ e3 ⟨Ls++[ms],RefsHT.snoc e3 q3 h1,by simp[h2],fun i hi=>?_⟩
    by_cases z:i < j
    ·rw[List.getD_eq_getElem?_getD (l:=Ls++[ms]),List.getElem?_append_left (by omega),← List.getD_eq_getElem?_getD]
     exact h3 i z
    ·obtain rfl:i=j:=by omega
     rw[List.getD_eq_getElem?_getD (l:=Ls++[ms]),List.getElem?_append_right (by omega),h2,Nat.sub_self,gy]
     exact hs
   ·rintro ys H2 e2 ha ⟨Ls,h1,h2,h3⟩
    rw[List.length_map] at h2 h3
    have hl:=h1.length
    have each:∀ L,L∈Ls↔GoS ss w L:=fun L=>by
     constructor
     ·intro hL
      obtain⟨i,hi,e⟩:=j0v.mpr hL
      have:=h3 i (by omega)
      rw[e] at this
      exact .inr ⟨hw,_,jez (by omega),this⟩
     ·rintro (⟨z,_⟩ | ⟨_,g,hg,hs⟩)
      ·exact absurd z hw
      ·obtain⟨k,hk,rfl⟩:=List.getElem_of_mem hg
       have hk':=h3 k (by omega)
       rw[List.getD_eq_getElem?_getD,List.getElem?_eq_getElem hk] at hk'
       exact j0v.mp ⟨k,by omega,hk'.uniq hs⟩
    walk_at "v"
    refine⟨r,dw,b,acc,m,ss,ys,Ls,w,rfl,e2 _ _ hr0,e2 _ _ hb,ha,h1,by omega,fun L hL=>?_,fun l ys' Ms H3 n3 q3 p3 pw mm l18 e3=>?_⟩
    ·obtain⟨i,hi,e⟩:=j0v.mpr hL
     have:=h3 i (by omega)
     rw[e] at this
     have:=this.len
     exact⟨by omega,Swp.mem (by assumption)⟩
    ·exact hq l ys' Ms H3 (e2.free n3) q3 p3 pw (fun L=>by rw[mm,each]) l18 (e2.tr e3)
def jc1 (a:Adr):Sp:=fun vs H Q _=>∃ (w dw d:Addr) (o:Obj) (mm:V) (kvs:List (List Key × V)) (r:Row (List Str)) (pool:List Str) (k:Nat) (x:Str),vs=[.ref w,.ref d,.str x]∧H w=some (.ins a.c_Store dw [("many",mm)])∧H d=some (.frz o (.dT kvs))∧RowT H kvs r∧AccT pool k r∧pool.Nodup∧pool.length=k+1∧k≤8∧x∈pool ∧
 ∀ d' o' kvs' H',H d'=none→H' d'=some (.frz o' (.dT kvs'))→RowT H' kvs' (j0p (mvS x) r)→AccT pool k (j0p (mvS x) r)→Ext H H'→Q (.ref d') H'
theorem jc2 (T:Txt K mg a):FnOk P w K mg base (CXU P w) 4 a.f_z33 a.d_z33 ["world","row","wish"] (jc1 a):=by
 refine T.F_z33.okU j99 (fun vs H Q E h=>?_) (fun cdv A outer s H vs Q E hr h=>?_)
 ·obtain⟨w,dw,d,o,mm,kvs,r,pool,k,x,rfl,hw,hd,hR,hA,pn,pl,k8,hx,hq⟩:=h
  rfl
 ·obtain⟨w,dw,d,o,mm,kvs,r,pool,k,x,rfl,hw,hd,hR,hA,pn,pl,k8,hx,hq⟩:=h
  have zc_Keeper:=T.cl_Keeper
  have zn_Keeper_row:=T.na_Keeper_row
  have zn_Keeper_world:=T.na_Keeper_world
  have zn_Keeper_standing:=T.na_Keeper_standing
  have zn_Keeper_spent:=T.na_Keeper_spent
  have zc_Store:=T.cl_Store
  have zn_Store_many:=T.na_Store_many
  refine⟨_,(j02 (j0q (i:=3) j99.nd rfl (by first | exact Or.inl rfl | exact Or.inr rfl) jfh)
   (j02 (j2y PassesOwn.never rfl (pi_dT (pv 1)) (j0d (i:=4) j99.nd rfl (by first | exact Or.inl rfl | exact Or.inr rfl)) (j02 (j0q (i:=5) j99.nd rfl (by first | exact Or.inl rfl | exact Or.inr rfl) (j4i oIx (j39 hr (pv 1) (pv 4) (fun _ _=>rfl)) j0c (fun _ _=>rfl)))
   (j04 (j2y PassesOwn.never rfl (j1p (j18 (pv 0) T.cl_Store T.me_Store_moves (j54 T) (hr.mono (by decide)) T.b_z12 .nil j0x (j00 (pv 4) (j00 (pv 2) j03)))) (j9j rfl (j0w (j0d (i:=6) j99.nd rfl (by first | exact Or.inl rfl | exact Or.inr rfl)) (j0w (j0d (i:=7) j99.nd rfl (by first | exact Or.inl rfl | exact Or.inr rfl)) j5a))) (j04 (j1u (PW.pt (j6f (j0h (jk3 hr) (pv 6) (pv 3) (by with_unfolding_all rfl)) (j2x (j0h op_lt (j1h j5o (pv 5) (pv 7)) (j4i oIx (j39 hr (pv 3) (pv 6) (fun _ _=>rfl)) j0c (fun _ _=>rfl)) (j0o _))))) (j04 (jg5 hr (pv 3) (pv 6) (j6i (j00 (j1h j5o (pv 5) (pv 7)) (j00 (pv 4) j03))) rfl)) j0f))))))
   (j02 (j1u (j0h op_gt (j06 cLenT (by rfl) T.n_len PySem.boot_len (j00 (pv 3) j03)) (j7l (v:=V.int 60) (by rfl) T.m_MOST_STATES ⟨_,rfl⟩) (j0o _)) (j04 j4f) j0f)
   (j04 (j0b (jk0 (pv 3))))))),?_⟩
  have nd:=hA.nd
  walk_at "v"
  refine jkb fun fd H1 n1 q1 e1=>?_
  walk_at "v"
  refine r_idT ?_
  walk_at "v"
  refine⟨d,o,kvs,rfl,e1 _ _ hd,for_dT (Pv:=fun i σ H3=>∃ (u1 u2 u3 u4:Option V) (kf:List (List Key × V)),σ=[some (.ref w),some (.ref d),some (.str x),some (.ref fd),u1,u2,u3,u4]∧Ext H H3∧H3 fd=some (.dT kf)∧RowT H3 kf ((r.take i).foldl (jev (mvS x)) [])∧AccT pool k ((r.take i).foldl (jev (mvS x)) [])) ⟨none,none,none,none,[],rfl,e1,q1,.nil,⟨List.nodup_nil,fun s hs=>by cases hs⟩⟩ (fun i σ H3 _ h=>by obtain⟨_,_,_,_,_,_,x,_⟩:=h;exact x _ _ hd) ?_ ?_⟩
  ·rintro i kv bk σ H3 hkv hbk ⟨u1,u2,u3,u4,kf,rfl,x3,qf,rf,ac⟩
   obtain⟨s,q,p,b,bv,er,rfl,hq0,hbv⟩:=hR.at i kv hkv
   have hbk':H3 bk=some (.tup (s.map V.str)):=by rw[← j3u];exact hbk
   have hmem:=List.mem_of_getElem? er
   have gs:=jew nd hmem
   have hst:StP pool k s:=hA.st s (List.mem_map.mpr ⟨_,hmem,rfl⟩)
   obtain⟨q',p',b',bv',v1,v2,v3,v4⟩:∃ q' p' b' bv',valV kvs (kT s)=some (.ref q')∧getR r s=some (p',b')∧H q'=some (.tup [.int p',bv'])∧bfV svT H b' bv':=by
    rcases hR.val j77 s with⟨_,z⟩ | z
    ·rw[gs] at z;cases z
    ·exact z
   rw[gs] at v2
   cases v2
   have et:r.take (i+1)=r.take i++[(s,p,b)]:=by rw[List.take_add_one,er];rfl
   generalize hacc:(r.take i).foldl (jev (mvS x)) []=acc at *
   walk_at "v"
   refine j5y (.inr ⟨o,x3 _ _ hd⟩) hbk v1 ?_
   walk_at "v"
   refine j6r (x3 _ _ v3) rfl ?_
   have hw3:=x3 _ _ hw
   have lns:=hst.ln
   walk_at "v"
   refine⟨w,dw,bk,mm,s,x,rfl,hw3,hbk',by omega,fun l ys Ms H4 n4 q4 r4 pw4 g4 l18 e4=>?_⟩
   have emv:mvS x s=Ms.map (prL s):=mvS_is pw4 g4
   have l4:=r4.length
   rw[← emv] at r4 l4
   have qf4:=e4 _ _ qf
   have nlf:l≠fd:=(j05 qf n4).symm
   have hbk4:=e4 _ _ hbk'
   walk_at "v"
   refine⟨l,rfl,⟨_,SqL.of q4⟩,j2z (xs:=ys) (fun j σ H5=>∃ (u3 u4:Option V) (kf:List (List Key × V)),σ=[some (.ref w),some (.ref d),some (.str x),some (.ref fd),some (.ref bk),some (.int p),u3,u4]∧But fd H4 H5∧H5 fd=some (.dT kf)∧RowT H5 kf (((mvS x s).take j).foldl (j1s p s) acc)∧AccT pool k (((mvS x s).take j).foldl (j1s p s) acc)) ⟨_,_,kf,rfl,fun b o _ h=>h,qf4,j1g (jbp e4) rf,ac⟩ (fun j σ H5 _ h=>by obtain⟨_,_,_,_,b5,_⟩:=h;exact SqL.of (b5 _ _ nlf q4)) ?_ ?_⟩
   ·rintro j y σ H5 hy ⟨u3,u4,kf,rfl,b5,q5,r5,a5⟩
    obtain⟨cy,ay,rfl,gy,gay⟩:=PairsHT.get r4 j y hy
    have hj:j < (mvS x s).length:=by have:=(List.getElem?_eq_some_iff.mp hy).1;omega
    have tk5:TK H4 H5:=j4a qf4 b5
    have hm':(mvS x s)[j]?=some ((mvS x s)[j]):=List.getElem?_eq_getElem hj
    have gd:(mvS x s).getD j ([],0)=(mvS x s)[j]:=by rw[List.getD_eq_getElem?_getD,hm'];rfl
    rw[gd] at gy gay
    have hmm:=j4b.mp (List.getElem_mem hj)
    generalize hmj:(mvS x s)[j]=mj at *
    obtain⟨m1,m2⟩:=mj
    have hs1:StP pool k m1:=hst.go hx hmm.1
    have gy5:=tk5 _ _ gy
    have gay5:=tk5 _ _ gay
    have gay5':H5 ay=some (.tup ((kT m1).map kV)):=by rw[j3u];exact gay5
    have em:(mvS x s).take (j+1)=(mvS x s).take j++[(m1,m2)]:=by rw[List.take_add_one,hm'];rfl
    have ef:((mvS x s).take (j+1)).foldl (j1s p s) acc=j1s p s (((mvS x s).take j).foldl (j1s p s) acc) (m1,m2):=by rw[em,List.foldl_append];rfl
    have a6:=a5.step (p:=p) (b:=s) (m:=(m1,m2)) hs1
    generalize hac2:((mvS x s).take j).foldl (j1s p s) acc=acc2 at *
    have lk:kf.length < 1000000:=by have:=r5.length;have:=a5.len pn pl;omega
    walk_at "v"
    refine jk2 (.inl q5) gay5' ?_
    rcases r5.val j77 m1 with⟨z1,z2⟩ | ⟨q2,p2,b2,bv2,z1,z2,z3,z4⟩
    ·rw[z1]
     walk_at "v"
     intro tq H6 n6 q6 e6
     walk_at "v"
     refine jer (e6 _ _ q5) (e6 _ _ gay5') lk fun H7 q7 b7=>?_
     have t67:=j4a (e6 _ _ q5) b7
     have es:j1s p s acc2 (m1,m2)=putR acc2 m1 (p+m2,some s):=jdq (m:=(m1,m2)) z2
     refine⟨_,_,_,rfl,fun b o nb hb=>b7 b o nb (e6 b o (b5 b o nb hb)),q7,?_,?_⟩
     ·rw[ef,es]
      exact RowG.put j77 (j1g ((jbp e6).tr t67) r5) (t67 _ _ q6) ⟨bk,rfl,t67 _ _ (e6 _ _ (tk5 _ _ hbk4))⟩
     ·rw[ef];exact a6
    ·rw[z1]
     walk_at "v"
     refine j5y (.inl q5) gay5' z1 ?_
     walk_at "v"
     refine j6r z3 rfl ?_
     walk_at "v"
     refine iteD (fun cl=>?_) (fun cl=>?_)
     ·walk_at "v"
      intro tq H6 n6 q6 e6
      walk_at "v"
      refine jer (e6 _ _ q5) (e6 _ _ gay5') lk fun H7 q7 b7=>?_
      have t67:=j4a (e6 _ _ q5) b7
      have es:j1s p s acc2 (m1,m2)=putR acc2 m1 (p+m2,some s):=jbi (m:=(m1,m2)) z2 cl
      refine⟨_,_,_,rfl,fun b o nb hb=>b7 b o nb (e6 b o (b5 b o nb hb)),q7,?_,?_⟩
      ·rw[ef,es]
       exact RowG.put j77 (j1g ((jbp e6).tr t67) r5) (t67 _ _ q6) ⟨bk,rfl,t67 _ _ (e6 _ _ (tk5 _ _ hbk4))⟩
      ·rw[ef];exact a6
     ·walk_at "v"
      have es:j1s p s acc2 (m1,m2)=acc2:=jbj (m:=(m1,m2)) z2 cl
      refine⟨_,_,_,rfl,b5,q5,?_,?_⟩
      ·rw[ef,es];exact r5
      ·rw[ef];exact a6
   ·rintro σ H5 ⟨u3,u4,kf,rfl,b5,q5,r5,a5⟩
    rw[l4,List.take_length] at r5 a5
    have eo:(r.take (i+1)).foldl (jev (mvS x)) []=(mvS x s).foldl (j1s p s) acc:=by rw[et,List.foldl_append,hacc];rfl
    refine⟨_,_,_,_,kf,rfl,Ext.but (x3.tr e4) b5 n1,q5,?_,?_⟩
    ·rw[eo];exact r5
    ·rw[eo];exact a5
  ·rintro σ H3 ⟨u1,u2,u3,u4,kf,rfl,x3,qf,rf,ac⟩
   rw[show kvs.length=r.length from hR.length,List.take_length] at rf ac
   have lk:=rf.length
   have la:=ac.len pn pl
   walk_at "v"
   refine jkc qf ?_
   walk_at "v"
   refine iteD (fun cl=>absurd cl (by omega)) (fun _=>?_)
   walk_at "v"
   refine r_frz ?_
   walk_at "v"
   refine jk1 qf fun o' H4 q4 b4=>?_
   exact hq fd o' kf H4 n1 q4 (j1g (j4a qf b4) rf) ac (Ext.but x3 b4 n1)
inductive RowsT (H:Hp):List V→List (Row (List Str))→Prop
 | nil:RowsT H [] []
 | cons {d:Addr}{o:Obj}{kvs:List (List Key × V)}{r:Row (List Str)}{ys:List V}{rs:List (Row (List Str))}:H d=some (.frz o (.dT kvs))→RowT H kvs r→RowsT H ys rs→RowsT H (.ref d :: ys) (r :: rs)
theorem RowsT.mono {H H':Hp} (k:∀ b o u,H b=some (.frz o u)→H' b=some (.frz o u)) (e:TK H H') {ys:List V}{rs:List (Row (List Str))} (h:RowsT H ys rs):RowsT H' ys rs:=by
 induction h with
 | nil=>exact .nil
 | cons a b _ ih=>exact .cons (k _ _ _ a) (j1g e b) ih
theorem RowsT.ext {H H':Hp} (e:Ext H H') {ys:List V}{rs:List (Row (List Str))} (h:RowsT H ys rs):RowsT H' ys rs:=h.mono (fun b o u z=>e _ _ z) (jbp e)
theorem RowsT.extT {H H':Hp} (e:ExtT H H') {ys:List V}{rs:List (Row (List Str))} (h:RowsT H ys rs):RowsT H' ys rs:=h.mono (fun b o u z=>e _ _ z rfl) (jey e)
theorem RowsT.butL {H H':Hp}{x:Addr}{zs:List V} (hx:H x=some (.lst zs)) (b:But x H H') {ys:List V}{rs:List (Row (List Str))} (h:RowsT H ys rs):RowsT H' ys rs:=RowsT.mono (H:=H) (H':=H') (fun c o u z=>b c _ (fun q=>by rw[q,hx] at z;cases z) z) (jbq hx b) h
theorem RowsT.length {H:Hp}{ys:List V}{rs:List (Row (List Str))} (h:RowsT H ys rs):ys.length=rs.length:=by
 induction h with
 | nil=>rfl
 | cons _ _ _ ih=>simp[ih]
theorem RowsT.at {H:Hp}{ys:List V}{rs:List (Row (List Str))} (h:RowsT H ys rs):∀ (i:Nat) (v:V),ys[i]?=some v→∃ d o kvs,v=.ref d∧H d=some (.frz o (.dT kvs))∧RowT H kvs (rs.getD i []):=by
 induction h with
 | nil=>exact fun i v h=>by simp at h
 | @cons d o kvs r ys rs a b _ ih =>
  intro i v h
  cases i with
  | zero=>simp at h;subst h;exact⟨d,o,kvs,rfl,a,b⟩
  | succ i=>simpa using ih i v (by simpa using h)
theorem RowsT.snoc {H:Hp}{d:Addr}{o:Obj}{kvs:List (List Key × V)}{r:Row (List Str)} (hd:H d=some (.frz o (.dT kvs))) (hr:RowT H kvs r) {ys:List V}{rs:List (Row (List Str))} (h:RowsT H ys rs):RowsT H (ys++[.ref d]) (rs++[r]):=by
 induction h with
 | nil=>exact .cons hd hr .nil
 | cons a b _ ih=>exact .cons a b ih
abbrev r0T (st:List Str):Row (List Str):=[(st,(0:Int),(none:Option (List Str)))]
theorem AccT.zero {pool st:List Str}{k:Nat} (h:StP pool k st):AccT pool k (r0T st):=⟨by simp,fun L hL=>by rw[List.mem_singleton.mp hL];exact h⟩
theorem AccT.reach {pool:List Str}{k:Nat}{r:Row (List Str)}{x:Str} (h:AccT pool k r) (hx:x∈pool):AccT pool k (j0p (mvS x) r):=⟨(j0n _ _).nd,fun L hL=>by
 obtain⟨y,hy⟩:=j26 hL
 obtain⟨e,m,he,hm,rfl,_⟩:=(j0n _ _).of L y hy
 exact (h.st e.1 (List.mem_map.mpr ⟨e,he,rfl⟩)).go hx (j4b.mp hm).1⟩
theorem AccT.all {pool:List Str}{k:Nat}{r:Row (List Str)}{ws:List Str} (h:AccT pool k r) (hw:∀ x∈ws,x∈pool):∀ j,j≤ws.length→AccT pool k ((allR r (ws.map mvS)).getD j [])
 | 0,_=>by rw[j4v];exact h
 | j+1,hj=>by
  rw[j27 _ _ _ (by rw[List.length_map];omega),List.getD_eq_getElem?_getD,List.getElem?_map,List.getElem?_eq_getElem (show j < ws.length by omega)]
  exact (AccT.all h hw j (by omega)).reach (hw _ (List.getElem_mem _))
def j55 (a:Adr):Sp:=fun vs H Q _=>∃ (w dw sp wl:Addr) (mm:V) (st ws pool:List Str) (k:Nat),vs=[.ref w,.ref sp,.ref wl]∧H w=some (.ins a.c_Store dw [("many",mm)])∧H sp=some (.tup (st.map V.str))∧H wl=some (.lst (ws.map V.str))∧StP pool k st∧pool.Nodup∧pool.length=k+1∧k≤8∧(∀ x∈ws,x∈pool)∧ws.length≤1000 ∧
 ∀ l zs H',H l=none→H' l=some (.lst zs)→RowsT H' zs (allR (r0T st) (ws.map mvS))→Ext H H'→Q (.ref l) H'
theorem j56 (T:Txt K mg a):FnOk P w K mg base (CXU P w) 5 a.f_z15 a.d_z15 ["world","start","wishes"] (j55 a):=by
 refine T.F_z15.okU jh6 (fun vs H Q E h=>?_) (fun cdv A outer s H vs Q E hr h=>?_)
 ·obtain⟨w,dw,sp,wl,mm,st,ws,pool,k,rfl,hw,hsp,hwl,hS,pn,pl,k8,hL,hz,hq⟩:=h
  rfl
 ·obtain⟨w,dw,sp,wl,mm,st,ws,pool,k,rfl,hw,hsp,hwl,hS,pn,pl,k8,hL,hz,hq⟩:=h
  have zc_Keeper:=T.cl_Keeper
  have zn_Keeper_row:=T.na_Keeper_row
  have zn_Keeper_world:=T.na_Keeper_world
  have zn_Keeper_standing:=T.na_Keeper_standing
  have zn_Keeper_spent:=T.na_Keeper_spent
  have zc_Store:=T.cl_Store
  have zn_Store_many:=T.na_Store_many
  refine⟨_,(j02 (j0q (i:=3) jh6.nd rfl (by first | exact Or.inl rfl | exact Or.inr rfl) (j5f (j00 (jk0 (jh1 hr (pv 1) (j6i (j00 j0c (j00 j9i j03))))) j03)))
   (j02 (j2y PassesOwn.never rfl (j1p (pv 2)) (j0d (i:=4) jh6.nd rfl (by first | exact Or.inl rfl | exact Or.inr rfl)) (j04 (j1z (jlp PySem.F.plainAttrs_list PySem.F.slot_list_append PySem.F.type_list_append j21 (pv 3) (j00 (j0g (jc2 T) (hr.mono (by decide)) (by rfl) T.m_z33 T.F_z33.kp T.b_z33 .nil j0x (j00 (pv 0) (j00 (j4i oIx (pv 3) (pe_un jhs j0c) (fun _ _=>rfl)) (j00 (pv 4) j03)))) j03)))))
   (j04 (j0b (pv 3))))),?_⟩
  have hall:=(AccT.zero hS).all hL
  walk_at "v"
  refine r_frz ?_
  refine jka fun fd H1 n1 q1 e1=>?_
  walk_at "v"
  intro tq H2 n2 q2 e2
  refine jh2 (ks:=kT st) (e2 _ _ q1) (by rw[j3u];exact (e1.tr e2) _ _ hsp) fun H3 q3 b3=>?_
  refine jk1 q3 fun o H4 q4 b4=>?_
  have nf:H fd=none:=n1
  have x2:Ext H H2:=e1.tr e2
  have x4:Ext H H4:=Ext.but (Ext.but x2 b3 nf) b4 nf
  have q24:H4 tq=some (.tup [.int 0,.non]):=j4a q3 b4 _ _ (j4a (e2 _ _ q1) b3 _ _ q2)
  have r4:RowT H4 [(kT st,.ref tq)] (r0T st):=.cons (key:=kT) (s:=st) q24 rfl .nil
  walk_at "v"
  intro l H5 n5 q5 e5
  have nl:H l=none:=x4.free n5
  walk_at "v"
  refine⟨wl,rfl,⟨_,SqL.of ((x4.tr e5) _ _ hwl)⟩,j2z (xs:=ws.map V.str) (fun i σ H6=>∃ (u:Option V) (zs:List V),σ=[some (.ref w),some (.ref sp),some (.ref wl),some (.ref l),u]∧Ext H H6∧H6 l=some (.lst zs)∧RowsT H6 zs (allR (r0T st) ((ws.take i).map mvS))) ⟨none,_,rfl,x4.tr e5,q5,.cons (e5 _ _ q4) (j1g (jbp e5) r4) .nil⟩ (fun i σ H6 _ h=>by obtain⟨_,_,_,x,_⟩:=h;exact SqL.of (x _ _ hwl)) ?_ ?_⟩
  ·rintro i y σ H6 hy ⟨u,zs,rfl,x6,q6,r6⟩
   obtain⟨x,ex,rfl⟩:=j1d hy
   have hi:i < ws.length:=(List.getElem?_eq_some_iff.mp ex).1
   have hxp:=hL x (List.mem_of_getElem? ex)
   have lz:=r6.length
   rw[j1b,List.length_map,List.length_take] at lz
   have ez:zs[zs.length-1]?=some (zs[zs.length-1]'(by omega)):=List.getElem?_eq_getElem _
   obtain⟨d,od,kvs,ed,hd,hrd⟩:=r6.at _ _ ez
   rw[ed] at ez
   have em:(ws.take (i+1)).map mvS=(ws.take i).map mvS++[mvS x]:=by
    rw[List.take_add_one,ex,List.map_append]
    rfl
   have ei:zs.length-1=((ws.take i).map mvS).length:=by rw[List.length_map,List.length_take];omega
   have hA:=(AccT.zero hS).all (ws:=ws.take i) (fun x hx=>hL x (List.mem_of_mem_take hx)) (zs.length-1) (by rw[List.length_take];omega)
   have el:j1f (r0T st) (allR (r0T st) ((ws.take i).map mvS))=(allR (r0T st) ((ws.take i).map mvS)).getD (zs.length-1) []:=by
    have e1:=j4w [] _ _ (j1b ((ws.take i).map mvS) (r0T st))
    rw[ei,← e1]
    cases (ws.take i).map mvS <;> rfl
   walk_at "v"
   refine jna q6 (j8f (by omega) ez) ?_
   walk_at "v"
   refine⟨w,dw,d,od,mm,kvs,_,pool,k,x,rfl,x6 _ _ hw,hd,hrd,hA,pn,pl,k8,hxp,fun d' o' kvs' H7 n7 q7 r7 a7 e7=>?_⟩
   have q67:=e7 _ _ q6
   walk_at "v"
   refine j4m q67 (by omega) fun H8 q8 b8=>?_
   have ndl:d'≠l:=(j05 q6 n7).symm
   refine⟨_,_,rfl,Ext.but (x6.tr e7) b8 nl,q8,?_⟩
   rw[em,j4u,el]
   exact RowsT.snoc (b8 _ _ ndl q7) (j1g (jbq q67 b8) r7) (RowsT.butL q67 b8 (r6.ext e7))
  ·rintro σ H6 ⟨u,zs,rfl,x6,q6,r6⟩
   rw[List.length_map,List.take_length] at r6
   walk_at "v"
   exact hq l zs H6 nl q6 r6 x6
theorem mvS_ne {x:Str}{ss:List Str} (h:1≤ss.length):mvS x ss≠[]:=fun z=>by
 obtain⟨L,hL⟩:∃ L,GoS ss x L:=by
  by_cases hx:x∈ss
  ·exact⟨ss,.inl ⟨hx,rfl⟩⟩
  ·obtain⟨M,m1,m2⟩:=jbt (ss.filter (fun t=>!decide (t=ss[0]))++[x])
   exact⟨M,.inr ⟨hx,ss[0],List.getElem_mem _,m1,m2⟩⟩
 have:(L,(((L.filter fun t=>!decide (t∈ss)).length:Nat):Int))∈mvS x ss:=j4b.mpr ⟨hL,rfl⟩
 rw[z] at this
 cases this
theorem jf4 {pool st ws:List Str}{k:Nat} (hS:StP pool k st) (k1:1≤k) (hw:∀ x∈ws,x∈pool):∀ j,j≤ws.length→(allR (r0T st) (ws.map mvS)).getD j []≠[]
 | 0,_=>by rw[j4v];simp
 | j+1,h=>by
  rw[j27 _ _ _ (by rw[List.length_map];omega)]
  refine jdr (jf4 hS k1 hw j (by omega)) fun s hs=>?_
  rw[List.getD_eq_getElem?_getD,List.getElem?_map,List.getElem?_eq_getElem (show j < ws.length by omega)]
  exact mvS_ne (by rw[((AccT.zero hS).all hw j (by omega)).st s hs |>.ln];exact k1)
theorem RefsHT.snocN {H:Hp}{a:Addr}{L:List Str} (ha:H a=some (.tup (L.map V.str))) {vs:List V}{Ls:List (List Str)} (r:RefsHT H vs Ls):RefsHT H (vs++[.ref a]) (Ls++[L]):=by
 induction r with
 | nil=>exact .cons ha .nil
 | cons x _ ih=>exact .cons x ih
theorem RefsHT.rev {H:Hp}{vs:List V}{Ls:List (List Str)} (r:RefsHT H vs Ls):RefsHT H vs.reverse Ls.reverse:=by
 induction r with
 | nil=>exact .nil
 | cons x _ ih=>rw[List.reverse_cons,List.reverse_cons];exact RefsHT.snocN x ih
def kfT (last:Row (List Str)) (Ks:List (List Str)) (i:Nat):Int:=((getR last (Ks.getD i [])).getD (0,none)).1
abbrev TabB (a:Adr) (H:Hp):Prop:=TabR H a.tb_z35 jkg jkh
def NewT (H:Hp) (x:Addr):Prop:=∀ o,H x=some o→noTb o=false
theorem jc3 {H H':Hp}{x:Addr} (e:ExtT H H') (n:H' x=none):NewT H x:=fun o ho=>by
 cases t:noTb o with
 | false=>rfl
 | true=>rw[e x o ho t] at n;cases n
theorem ExtT.butN {x:Addr}{H H1 H2:Hp} (a:ExtT H H1) (b:But x H1 H2) (hn:NewT H x):ExtT H H2:=fun y o h t=>b y o (fun z=>by rw[z] at h;rw[hn o h] at t;cases t) (a y o h t)
theorem TabR.butL {H H':Hp}{P r:Addr}{pos:Pos}{qual:Str}{xs:List V} (hr:H r=some (.lst xs)) (e:But r H H') (h:TabR H P pos qual):TabR H' P pos qual:=by
 rcases h with h | ⟨c,h,oc,vs,t,k,k2⟩
 ·exact .inl (e _ _ (fun z=>by rw[z,hr] at h;cases h) h)
 ·exact .inr ⟨c,e _ _ (fun z=>by rw[z,hr] at h;cases h) h,oc,vs,t,e _ _ (fun z=>by rw[z,hr] at k;cases k) k,k2⟩
def jkt (a:Adr):Sp:=fun vs H Q _=>∃ (w dw sp wl:Addr) (mm:V) (st ws pool:List Str) (k:Nat),vs=[.ref w,.ref sp,.ref wl]∧H w=some (.ins a.c_Store dw [("many",mm)])∧H sp=some (.tup (st.map V.str))∧H wl=some (.lst (ws.map V.str))∧StP pool k st∧pool.Nodup∧pool.length=k+1∧1≤k∧k≤8∧(∀ x∈ws,x∈pool)∧ws.length≤1000∧TabB a H ∧
 ∀ tp yl H' c ys Ys,NewT H yl→H' tp=some (.tup [.int c,.ref yl])→H' yl=some (.lst ys)→RefsHT H' ys Ys→WayR st (ws.map mvS) Ys c→(∀ Zs q,WayR st (ws.map mvS) Zs q→c≤q)→TabB a H'→ExtT H H'→But a.tb_z35 H H'→Q (.ref tp) H'
theorem jku (T:Txt K mg a):FnOk P w K mg base (CXU P w) 6 a.f_z35 a.d_z35 ["world","start","wishes"] (jkt a):=by
 refine T.F_z35.okL T.ck_z35 j60 (fun vs H Q E h=>?_) (fun A outer s H vs Q E hr h=>?_)
 ·obtain⟨w,dw,sp,wl,mm,st,ws,pool,k,rfl,hw,hsp,hwl,hS,pn,pl,k1,k8,hL,hz,hT,hq⟩:=h
  rfl
 ·obtain⟨w,dw,sp,wl,mm,st,ws,pool,k,rfl,hw,hsp,hwl,hS,pn,pl,k1,k8,hL,hz,hT,hq⟩:=h
  have zc_Keeper:=T.cl_Keeper
  have zn_Keeper_row:=T.na_Keeper_row
  have zn_Keeper_world:=T.na_Keeper_world
  have zn_Keeper_standing:=T.na_Keeper_standing
  have zn_Keeper_spent:=T.na_Keeper_spent
  have zc_Store:=T.cl_Store
  have zn_Store_many:=T.na_Store_many
  refine⟨_,(j02 (j0q (i:=3) j60.nd rfl (by first | exact Or.inl rfl | exact Or.inr rfl) (j0g (j56 T) (hr.mono (by decide)) (by rfl) T.m_z15 T.F_z15.kp T.b_z15 .nil j0x (j00 (pv 0) (j00 (pv 1) (j00 (pv 2) j03)))))
   (j02 (j0q (i:=4) j60.nd rfl (by first | exact Or.inl rfl | exact Or.inr rfl) (j4i oIx (pv 3) (pe_un jhs j0c) (fun _ _=>rfl)))
   (j02 (j0q (i:=5) j60.nd rfl (by first | exact Or.inl rfl | exact Or.inr rfl) (jbe (k:=0) (c:=a.ck_z35) (P:=a.tb_z35) (x:="some") (fr:=["last"]) (js:=[4]) (κ:=Int) (KR:=KRi) (lt:=lti) (fun _ kf=>jau kf) (hr.mono (by decide)) (by rfl) T.n_min (j00 (j06 (jk8 rfl) (by rfl) T.n_sorted PyProof.Rows.boot_sorted (j00 (pv 4) j03)) j03) rfl T.hd_best rfl ⟨rfl,rfl,rfl,by decide +kernel,rfl,by rfl,⟨⟨rfl,by first | exact Or.inl rfl | exact Or.inr rfl,by first | exact Or.inl rfl | exact Or.inr rfl⟩,trivial⟩⟩ (fun _ _ _ _=>rfl) (fun _ _ _ _ _=>(j4i oIx (j39 (Room.lam (j:=0) (by decide) hr) (pv 1) (pv 0) (fun _ _=>rfl)) j0c (fun _ _=>rfl)))))
   (j02 (j0q (i:=6) j60.nd rfl (by first | exact Or.inl rfl | exact Or.inr rfl) (j4i oIx (j39 hr (pv 4) (pv 5) (fun _ _=>rfl)) j0c (fun _ _=>rfl)))
   (j02 (j0q (i:=7) j60.nd rfl (by first | exact Or.inl rfl | exact Or.inr rfl) (j5f j03))
   (j02 (j2y PassesOwn.never rfl (pi_rev (by rfl) T.n_reversed (j00 (j31 oSl (pv 3) (j5i j0c) j5h) j03)) (j0d (i:=8) j60.nd rfl (by first | exact Or.inl rfl | exact Or.inr rfl)) (j02 (j1z (jlp PySem.F.plainAttrs_list PySem.F.slot_list_append PySem.F.type_list_append j21 (pv 7) (j00 (pv 5) j03)))
   (j04 (j0q (i:=5) j60.nd rfl (by first | exact Or.inl rfl | exact Or.inr rfl) (j4i oIx (j39 hr (pv 8) (pv 5) (fun _ _=>rfl)) j0c (fun _ _=>rfl))))))
   (j04 (j0b (j6i (j00 (pv 6) (j00 (jb9 rfl (by rfl) T.n_list (by rfl) T.n_reversed (j00 (pv 7) j03)) j03))))))))))),?_⟩
  walk_at "v"
  refine⟨w,dw,sp,wl,mm,st,ws,pool,k,rfl,hw,hsp,hwl,hS,pn,pl,k8,hL,hz,fun l zs H1 nl ql rl e1=>?_⟩
  have lm:(ws.map mvS).length=ws.length:=List.length_map ..
  have lz:=rl.length
  rw[j1b,lm] at lz
  have hT1:=TabR.ext e1 hT
  have hacc:=(AccT.zero hS).all hL (ws.map mvS).length (by omega)
  have nd:=hacc.nd
  have hne:=jf4 hS k1 hL (ws.map mvS).length (by omega)
  have few:=hacc.len pn pl
  have ez:zs[zs.length-1]?=some (zs[zs.length-1]'(by omega)):=List.getElem?_eq_getElem _
  obtain⟨d,od,kvs,ed,hd,hrd⟩:=rl.at _ _ ez
  rw[ed] at ez
  rw[show zs.length-1=(ws.map mvS).length by omega] at hrd
  have el:j1f [] (allR (r0T st) (ws.map mvS))=(allR (r0T st) (ws.map mvS)).getD (ws.map mvS).length []:=j4w [] _ _ (j1b _ _)
  have el2:j1f (r0T st) (allR (r0T st) (ws.map mvS))=(allR (r0T st) (ws.map mvS)).getD (ws.map mvS).length []:=by rw[← el];cases ws.map mvS <;> rfl
  generalize hlast:(allR (r0T st) (ws.map mvS)).getD (ws.map mvS).length []=last at *
  have hkl:=hrd.length
  walk_at "v"
  refine jna ql (j8f (by omega) ez) ?_
  walk_at "v"
  unfold jk6
  walk_at "v"
  refine jgy hd (Ls:=last.map (·.1)) (by rw[hrd.keys,List.map_map];rfl) (by omega) (fun L hLm=>by
   have:=(hacc.st L hLm).ln
   intro z
   rw[z] at this
   simp at this
   omega) fun ls vs' Ks H2 n2 q2 r2 pm sm e2=>?_
  have lks:Ks.length=last.length:=by rw[pm.length_eq,List.length_map]
  have lvs:=r2.length
  have l0:0 < last.length:=List.length_pos_iff.mpr hne
  refine⟨ls,vs',false,kfT last Ks,rfl,q2,by omega,TabR.ext e2 hT1,fun i x hx pins f c s' Hc H3 e3=>?_,fun x H3 hx e3 b3 hT3=>?_⟩
  ·obtain⟨ay,rfl,hay⟩:=r2.get i x hx
   have hi:i < Ks.length:=by have:=(List.getElem?_eq_some_iff.mp hx).1;omega
   have hy:Ks.getD i []∈last.map (·.1):=pm.mem_iff.mp (by rw[List.getD_eq_getElem?_getD,List.getElem?_eq_getElem hi];exact List.getElem_mem _)
   obtain⟨x0,hx0⟩:=j26 hy
   rcases hrd.val j77 (Ks.getD i []) with⟨_,z⟩ | ⟨q',p',b',bv',v1,v2,v3,v4⟩
   ·rw[hx0] at z;cases z
   walk_at "v"
   refine j5y (.inr ⟨od,e3 _ _ (e2 _ _ hd) rfl⟩) (by rw[j3u];exact e3 _ _ hay rfl) v1 ?_
   walk_at "v"
   refine j6r (e3 _ _ (e2 _ _ v3) rfl) rfl ?_
   walk_at "v"
   refine⟨?_,Ext.rfl'⟩
   show V.int p'=V.int (kfT last Ks i)
   unfold kfT
   rw[v2]
   rfl
  ·obtain⟨sa,rfl,hsa⟩:=r2.get _ x hx
   generalize hbi:j1j (lti (kfT last Ks)) (vs'.length-1)=bi at *
   have hi:bi < Ks.length:=by have:=(List.getElem?_eq_some_iff.mp hx).1;omega
   have bin:Ks.getD bi []∈last.map (·.1):=pm.mem_iff.mp (by rw[List.getD_eq_getElem?_getD,List.getElem?_eq_getElem hi];exact List.getElem_mem _)
   have least:∀ s y,getR last s=some y→kfT last Ks bi≤y.1:=fun s y hy=>by
    have hm:s∈Ks:=pm.mem_iff.mpr (List.mem_map.mpr ⟨(s,y),jbk hy,rfl⟩)
    obtain⟨j,hj,rfl⟩:=List.getElem_of_mem hm
    have:=j3c (jjq (kfT last Ks)) (lti_tr (kfT last Ks)) (vs'.length-1) j (by omega)
    rw[hbi] at this
    have:=of_decide_eq_false this
    have e:kfT last Ks j=y.1:=by unfold kfT;rw[List.getD_eq_getElem?_getD,List.getElem?_eq_getElem hj,Option.getD_some,hy];rfl
    omega
   generalize hbs:Ks.getD bi []=bs at *
   have x3:ExtT H H3:=(Ext.toT (e1.tr e2)).tr e3
   have hd3:=e3 _ _ (e2 _ _ hd) rfl
   have ql3:=e3 _ _ (e2 _ _ ql) rfl
   have rl3:=(rl.ext e2).extT e3
   have hsa3:=e3 _ _ hsa rfl
   obtain⟨x0,hx0⟩:=j26 bin
   rcases hrd.val j77 bs with⟨_,z⟩ | ⟨q',p',b',bv',v1,v2,v3,v4⟩
   ·rw[hx0] at z;cases z
   have v33:=e3 _ _ (e2 _ _ v3) rfl
   have ebe:kfT last Ks bi=p':=by unfold kfT;rw[hbs,v2];rfl
   have hway:=(j8d st (ws.map mvS).length (ws.map mvS) rfl bs (p',b') (by rw[el];exact v2)).1
   have hmin:∀ Zs q,WayR st (ws.map mvS) Zs q→p'≤q:=fun Zs q hZ=>by
    obtain⟨y,y1,y2⟩:=jex hZ (r:=r0T st) (by simp) (j0z rfl)
    rw[el2] at y1
    have:=least _ _ y1
    have y2':y.1≤(0:Int)+q:=y2
    omega
   walk_at "v"
   refine j5y (.inr ⟨od,hd3⟩) (by rw[j3u];exact hsa3) v1 ?_
   walk_at "v"
   refine j6r v33 rfl ?_
   walk_at "v"
   intro wy H4 n4 q4 e4
   walk_at "v"
   refine r_irev ?_
   walk_at "v"
   refine jnh (e4 _ _ ql3) fun sl H5 n5 q5 e5=>?_
   have cut1:cutV zs (some 1) none=zs.drop 1:=jkl zs (by omega)
   rw[cut1] at q5
   have ls5:(zs.drop 1).length=ws.length:=by rw[List.length_drop];omega
   have q45:=e5 _ _ q4
   have nwy:NewT H wy:=jc3 x3 n4
   have nsw:sl≠wy:=(j05 q4 n5).symm
   have hs0:bs∈((allR (r0T st) (ws.map mvS)).getD (ws.map mvS).length []).map (·.1):=by rw[hlast];exact bin
   walk_at "v"
   refine⟨sl,zs.drop 1,rfl,q5,jk4 (xs:=zs.drop 1) (fun i σ H6=>∃ (u:Option V) (sa:Addr) (us:List V),σ=[some (.ref w),some (.ref sp),some (.ref wl),some (.ref l),some (.ref d),some (.ref sa),some (.int p'),some (.ref wy),u]∧But wy H5 H6∧H6 sa=some (.tup ((stT ((allR (r0T st) (ws.map mvS)).drop 1).reverse bs i).map V.str))∧H6 wy=some (.lst us)∧RefsHT H6 us ((List.range i).map (stT ((allR (r0T st) (ws.map mvS)).drop 1).reverse bs))) ⟨none,sa,[],rfl,fun b o _ h=>h,(e4.tr e5) _ _ hsa3,q45,.nil⟩ (fun i σ H6 _ h=>by obtain⟨_,_,_,_,b6,_⟩:=h;exact b6 _ _ nsw q5) ?_ ?_⟩
   ·rintro i y σ H6 hi hy ⟨u,sa,us,rfl,b6,s6,q6,r6⟩
    rw[ls5] at hi hy
    rw[List.getElem?_drop,show 1+(ws.length-1-i)=ws.length-i by omega] at hy
    obtain⟨dr,odr,kr,rfl,hdr,hrr⟩:=((rl3.ext e4).ext e5).at _ _ hy
    obtain⟨p2,b2,g1,g2⟩:=jkj hs0 i (by omega)
    rw[lm] at g1
    generalize hst:stT ((allR (r0T st) (ws.map mvS)).drop 1).reverse bs i=si at *
    rcases hrr.val j77 si with⟨_,z⟩ | ⟨q2',p2',b2',bv2',w1,w2,w3,w4⟩
    ·rw[g1] at z;cases z
    rw[g1] at w2
    cases w2
    obtain⟨sb,rfl,hsb⟩:svT _ b2 bv2':=w4
    have lu:=r6.length
    rw[List.length_map,List.length_range] at lu
    walk_at "v"
    refine j4m q6 (by omega) fun H7 q7 b7=>?_
    have nb:But wy H5 H7:=fun b o n h=>b7 b o n (b6 b o n h)
    have tk7:=jbq q6 b7
    have hdr7:=nb _ _ (j58 hdr q45 (by intro z;cases z)) hdr
    have w37:=nb _ _ (j58 w3 q45 (by intro z;cases z)) w3
    have hsb7:=nb _ _ (j58 hsb q45 (by intro z;cases z)) hsb
    walk_at "v"
    refine j5y (.inr ⟨odr,hdr7⟩) (by rw[j3u];exact tk7 _ _ s6) w1 ?_
    walk_at "v"
    refine j6r w37 rfl ?_
    walk_at "v"
    refine⟨some (.ref dr),sb,_,rfl,nb,by rw[g2];exact hsb7,q7,?_⟩
    rw[List.range_succ,List.map_append]
    exact RefsHT.snocN (by rw[hst];exact tk7 _ _ s6) (RefsHT.tk tk7 r6)
   ·rintro σ H6 ⟨u,sa,us,rfl,b6,s6,q6,r6⟩
    rw[ls5] at r6
    have lr:((allR (r0T st) (ws.map mvS)).drop 1).reverse.length=ws.length:=by rw[List.length_reverse,List.length_drop,j1b,lm];omega
    have ewy:(j2n ((allR (r0T st) (ws.map mvS)).drop 1).reverse bs).reverse=((List.range ws.length).map (stT ((allR (r0T st) (ws.map mvS)).drop 1).reverse bs)).reverse:=by
     rw[jbo,lr]
    have hway':WayR st (ws.map mvS) (j2n ((allR (r0T st) (ws.map mvS)).drop 1).reverse bs).reverse p':=hway
    rw[ewy] at hway'
    walk_at "v"
    refine jdl q6 fun yl H7 n7 q7 e7=>?_
    walk_at "v"
    intro tp H8 n8 q8 e8
    have x5:ExtT H H5:=(x3.ext e4).ext e5
    have x6:ExtT H H6:=ExtT.butN x5 b6 nwy
    have T6:=TabR.butL q45 b6 (TabR.ext (e4.tr e5) hT3)
    exact hq tp yl H8 p' _ _ (jc3 x6 n7) q8 (e8 _ _ q7) (((RefsHT.rev r6).mono e7).mono e8) hway' hmin (TabR.ext (e7.tr e8) T6) (x6.ext (e7.tr e8)) (fun b o n h=>(e7.tr e8) _ _ (But.new (p:=a.tb_z35) (H:=H) (fun b o n h=>b3 b o n ((e1.tr e2) _ _ h)) n4 (e4.tr e5) b6 b o n h))
theorem jdu {ns:List Str} (h:ns≠[]):atI (ns.map V.str) 0=some (.str (ns.headD ⟨#[]⟩)):=by
 cases ns with
 | nil=>exact (h rfl).elim
 | cons x r=>exact je4 (j:=0) rfl
def jc4 (K:PySem.W.Frag):Sp:=fun vs H Q _=>∃ (p q:Addr) (P L:List Str),vs=[.ref p,.ref q]∧SqT K H p (P.map V.str)∧H q=some (.tup (L.map V.str))∧P.length≤1000∧P.filter (fun x=>!decide (x∈L))≠[]∧∀ H',Ext H H'→Q (.str ((P.filter fun x=>!decide (x∈L)).headD ⟨#[]⟩)) H'
theorem jc5 (T:Txt K mg a):FnOk P w K mg base (CXU P w) 1 a.f_z29 a.d_z29 ["things","had"] (jc4 K):=by
 refine T.F_z29.okU sc_z29 (fun vs H Q E h=>?_) (fun cdv A outer s H vs Q E hr h=>?_)
 ·obtain⟨p,q,P,L,rfl,hp,hq',hl,hne,hq⟩:=h
  rfl
 ·obtain⟨p,q,P,L,rfl,hp,hq',hl,hne,hq⟩:=h
  refine⟨_,(j04 (j0b (j4i oIx (j1c (["thing"]:List Str) (["had"]:List Str) [1] rfl ⟨rfl,by decide +kernel,by decide +kernel,by rfl,⟨⟨rfl,by first | exact Or.inl rfl | exact Or.inr rfl,by first | exact Or.inl rfl | exact Or.inr rfl⟩,trivial⟩⟩ (j6h (pv 0)) (fun _ _ _ _=>⟨(j0d (i:=0) (by show ((["thing"]:List Str)++(["had"]:List Str)).Nodup;decide +kernel) rfl (by first | exact Or.inl rfl | exact Or.inr rfl)),(show PTs _ [_] [_] from⟨(j0h j8x (pv 0) (pv 1) (by with_unfolding_all rfl)),trivial⟩),(pv 0)⟩)) j0c (fun _ _=>rfl)))),?_⟩
  walk_at "v"
  refine⟨p,rfl,⟨_,hp⟩,fun acc hn _ _ _ _=>j1v hp (by rw[List.length_map];omega) hn (fun j ys _=>ys=((P.take j).filter fun x=>!decide (x∈L)).map V.str) (by simp) (fun _ _ _ _ _ h=>h) (fun j ys H' _ h=>by rw[h,List.length_map];exact Nat.le_trans (List.length_filter_le _ _) (by rw[List.length_take];omega)) ?_ ?_⟩
  ·rintro j y ys H2 hy e rfl Y N hY hN
   obtain⟨y,ey,rfl⟩:=j1d hy
   have et:P.take (j+1)=P.take j++[y]:=by rw[List.take_add_one,ey];rfl
   walk_at "v"
   refine j37 (e _ _ hq') rfl (j1a _) ?_
   rw[j1m]
   walk_at "v"
   refine iteN (fun h=>?_) (fun h=>?_)
   ·walk_at "v"
    refine hY _ _ Ext.rfl' ?_
    rw[et,List.filter_append,List.filter_cons,if_pos (by simp[h]),List.map_append]
    rfl
   ·walk_at "v"
    refine hN _ Ext.rfl' ?_
    rw[et,List.filter_append,List.filter_cons,if_neg (by simp[h]),List.filter_nil,List.append_nil]
  ·rintro ys H2 e2 ha rfl
   rw[List.length_map,List.take_of_length_le (Nat.le_refl _)] at ha
   walk_at "v"
   refine jna ha (jdu hne) ?_
   exact hq H2 e2
def j6a (a:Adr):Sp:=fun vs H Q _=>∃ (r:Addr) (row:List Str) (z:Int),vs=[.ref r]∧KeepAt a H r row z∧∀ st (ss:List Str),ss.Perm row→sortedS ss=true→H st=some (.tup (ss.map V.str))→Q (.ref st) H
theorem j6b (T:Txt K mg a):FnOk P w K mg base (CXU P w) 1 a.f_z16 a.d_z16 ["self"] (j6a a):=by
 refine T.F_z16.okU sc_z16 (fun vs H Q E h=>?_) (fun cdv A outer s H vs Q E hr h=>?_)
 ·obtain⟨r,row,z,rfl,hB,hq⟩:=h
  rfl
 ·obtain⟨r,row,z,rfl,hB,hq⟩:=h
  have zc_Keeper:=T.cl_Keeper
  have zn_Keeper_row:=T.na_Keeper_row
  have zn_Keeper_world:=T.na_Keeper_world
  have zn_Keeper_standing:=T.na_Keeper_standing
  have zn_Keeper_spent:=T.na_Keeper_spent
  have zc_Store:=T.cl_Store
  have zn_Store_many:=T.na_Store_many
  refine⟨_,(j04 (j0b (j30 (pv 0) rfl))),?_⟩
  obtain⟨dx,wo,dw,st,q,ss,k⟩:=hB.ex
  have h1:=k.hr
  walk_at "v"
  exact hq st ss k.pm k.so k.hs
theorem r_slN {K:PySem.W.Frag}{H:Hp}{Q:VK}{p:Addr}{xs:List V}{lo hi:Option Int} (h:SqT K H p xs) (q:∀ l H',SqT K H' l (cutV xs lo hi)→Ext H H'→Q (.ref l) H'):rSlV K (.ref p) lo hi H Q:=by
 by_cases c:HT.sIx xs.length 0 lo=0∧HT.sIx xs.length xs.length hi=xs.length
 ·exact .inl (.inr ⟨p,xs,rfl,h,c,q p H (by rw[jd6 c];exact h) Ext.rfl'⟩)
 ·exact .inl (.inl (.inl ⟨p,xs,rfl,h,c,fun l n=>q l _ (SqT.of j07) (j0j n)⟩))
theorem KeepAt.kp {a:Adr}{H H':Hp}{r:Addr}{row:List Str}{z:Int} (e:∀ b o,H b=some o→(∀ oc d,o≠czO oc d)→H' b=some o) (k:KeepAt a H r row z):KeepAt a H' r row z:=by
 obtain⟨dx,wo,dw,st,q,ss,k⟩:=k.ex
 exact⟨dx,wo,dw,st,q,ss,e _ _ k.hr (fun _ _ z=>by cases z),e _ _ k.hw (fun _ _ z=>by cases z),e _ _ k.hs (fun _ _ z=>by cases z),e _ _ k.hq (fun _ _ z=>by cases z),k.pm,k.so⟩
theorem KeepAt.extT {a:Adr}{H H':Hp}{r:Addr}{row:List Str}{z:Int} (e:ExtT H H') (k:KeepAt a H r row z):KeepAt a H' r row z:=by
 obtain⟨dx,wo,dw,st,q,ss,k⟩:=k.ex
 exact⟨dx,wo,dw,st,q,ss,e _ _ k.hr rfl,e _ _ k.hw rfl,e _ _ k.hs rfl,e _ _ k.hq rfl,k.pm,k.so⟩
theorem KeepAt.butC {a:Adr}{H H':Hp}{r:Addr}{row:List Str}{z:Int}{l:Addr}{xs:List V} (hl:H l=some (.lst xs)) (hx:row.map V.str≠xs) (b:But l H H') (k:KeepAt a H r row z):KeepAt a H' r row z:=by
 obtain⟨dx,wo,dw,st,q,ss,k⟩:=k.ex
 exact⟨dx,wo,dw,st,q,ss,b _ _ (j58 k.hr hl (by intro z;cases z)) k.hr,b _ _ (j58 k.hw hl (by intro z;cases z)) k.hw,b _ _ (j58 k.hs hl (by intro z;cases z)) k.hs,b _ _ (j58 k.hq hl (by intro z;injection z with z;exact hx z)) k.hq,k.pm,k.so⟩
theorem jkv {P:List Str}{k:Nat} (pn:P.Nodup) (pl:P.length=k+1) (k1:1≤k) (i:Nat):(rowK P k (i+1)).map V.str≠(wssK P k i).map V.str:=fun z=>by
 have l:=congrArg List.length z
 simp only[List.length_map,j0t,List.length_range] at l
 subst l
 obtain⟨j,rfl⟩:∃ j,k=j+1:=⟨k-1,by omega⟩
 have e:((rowK P (j+1) (j+1+1)).map V.str)[0]?=((wssK P (j+1) (j+1)).map V.str)[0]?:=by rw[z]
 simp only[rowK,wssK,List.range_succ_eq_map,List.map_cons,List.getElem?_cons_zero] at e
 have e':pgK P (j+1) (j+1+1+0)=pgK P (j+1) (0+(j+1)):=by injection e with e;injection e
 exact jhn pn pl (show 0+(j+1) < j+1+1+0 by omega) (by omega) e'
abbrev LamK (H:Hp) (f d:Addr):Prop:=LamHC H f j0s (lamA j0e) (lamB j0e) (lamS j0e) "k" d
def j2q (a:Adr):Sp:=fun vs H Q _=>∃ (r f d:Addr) (k m:Nat),vs=[.ref r,.int (m:Nat),.ref f]∧KeepAt a H r (nmsK.take k) 0∧1≤k∧k≤8∧LamK H f d∧CellH H d (.int (k:Nat))∧m≤1000 ∧
 ∀ wl z H',H wl=none→H' wl=some (.lst ((wssK (nmsK.take (k+1)) k m).map V.str))→KeepAt a H' r (rowK (nmsK.take (k+1)) k m) z→CellH H' d (.int (k:Nat))→But r H H'→Q (.ref wl) H'
theorem j2r (T:Txt K mg a):FnOk P w K mg base (CXU P w) 4 a.f_z4 a.d_z4 ["rule","many","worst"] (j2q a):=by
 refine T.F_z4.okU jlv (fun vs H Q E h=>?_) (fun cdv A outer s H vs Q E hr h=>?_)
 ·obtain⟨r,f,d,k,m,rfl,hB,k1,k8,hL,hC,hm,hq⟩:=h
  rfl
 ·obtain⟨r,f,d,k,m,rfl,hB,k1,k8,hL,hC,hm,hq⟩:=h
  have zc_Keeper:=T.cl_Keeper
  have zn_Keeper_row:=T.na_Keeper_row
  have zn_Keeper_world:=T.na_Keeper_world
  have zn_Keeper_standing:=T.na_Keeper_standing
  have zn_Keeper_spent:=T.na_Keeper_spent
  have zc_Store:=T.cl_Store
  have zn_Store_many:=T.na_Store_many
  refine⟨_,(j02 (j0q (i:=3) jlv.nd rfl (by first | exact Or.inl rfl | exact Or.inr rfl) (j5f j03))
   (j02 (j2y PassesOwn.never rfl (jch rfl T.n_range (j00 (pv 1) j03)) (j0d (i:=4) jlv.nd rfl (by first | exact Or.inl rfl | exact Or.inr rfl)) (j02 (j0q (i:=5) jlv.nd rfl (by first | exact Or.inl rfl | exact Or.inr rfl) (jbc (k:=0) (i:=2) (y:="k") (z:="foe") (qual:=j0s) (params:=lamA j0e) (lb:=lamB j0e) (sc:=lamS j0e) rfl (by first | exact Or.inl rfl | exact Or.inr (Or.inl rfl)) (hr.mono (by decide)) (j00 (pv 0) j03) ⟨rfl,rfl,rfl,by decide +kernel,rfl,rfl,by decide +kernel⟩ (fun _ _ _ _ _=>rfl) (fun _ _ _ _ _ _=>(j0g (jc5 T) (Room.lam1 (by decide) hr) (by rfl) T.m_z29 T.F_z29.kp T.b_z29 .nil j0x (j00 (j31 oSlV (j7l (v:=V.ref a.v_NAMES) (by rfl) T.m_NAMES rfl) j5h (j5i (j1h j5o (pv 1) j0c))) (j00 (j9u (pv 0) T.cl_Keeper T.me_Keeper_state (j6b T) (Room.lam1 (by decide) hr) T.b_z16 .nil j0x) j03))))))
   (j02 (j1z (j18 (pv 0) T.cl_Keeper T.me_Keeper_pay (j4e T) (hr.mono (by decide)) T.b_z24 .nil j0x (j00 (pv 5) j03)))
   (j04 (j1z (jlp PySem.F.plainAttrs_list PySem.F.slot_list_append PySem.F.type_list_append j21 (pv 3) (j00 (pv 5) j03)))))))
   (j04 (j0b (pv 3))))),?_⟩
  obtain⟨pn,pl,ps,pN,pt⟩:=j1w k k8
  have ecut:cutV (List.map V.str ["a","b","c","d","e","f","g","h","i"]) none (some ((k:Int)+1))=(nmsK.take (k+1)).map V.str:=jkp (i:=k+1) (ss:=nmsK) (show k+1≤9 by omega)
  rw[← pt,← j29 pl] at hB
  generalize hP:nmsK.take (k+1)=P at *
  walk_at "v"
  intro wl H1 n1' q1 e1
  walk_at "v"
  refine⟨_,rfl,by omega,by omega,jcj (fun i σ H3=>∃ (u1 u2:Option V) (z:Int),σ=[some (.ref r),some (.int (m:Nat)),some (.ref f),some (.ref wl),u1,u2]∧KeepAt a H3 r (rowK P k i) z∧H3 wl=some (.lst ((wssK P k i).map V.str))∧LamK H3 f d∧CellH H3 d (.int (k:Nat))∧But r H H3)
   ⟨none,none,0,rfl,hB.ext e1,q1,hL.mono (Ext.toT e1),hC.mono (Ext.toT e1),fun b o _ hb=>e1 b o hb⟩ ?_ ?_⟩
  ·rintro i σ H3 hi ⟨u1,u2,z,rfl,B3,q3,L3,C3,b3⟩
   rw[Int.toNat_natCast] at hi
   obtain⟨oc0,uc0,hoc0,_,_⟩:=id C3
   have B3d:KeepAt a (del H3 d) r (rowK P k i) z:=KeepAt.kp (fun b o h no=>by
    rw[j1k (fun z=>by rw[z,hoc0] at h;cases h;exact no _ _ rfl)]
    exact h) B3
   obtain⟨dx,wo,dw,st,q,ss,kk⟩:=B3d.ex
   have h1:=kk.hr
   walk_at "v"
   refine⟨f,d,.int (k:Nat),rfl,L3,?_⟩
   walk_at "v"
   refine⟨.ref r,rfl,L3,C3,fun pins c s'=>?_⟩
   walk_at "v"
   refine r_slN (T.q_NAMES _) fun np H4 n4 e4=>?_
   rw[ecut] at n4
   have h14:=e4 _ _ h1
   walk_at "v"
   refine⟨r,_,z,rfl,B3d.ext e4,fun st' ss' pm' so' hst'=>?_⟩
   obtain⟨ne,hd⟩:=jhc pn pl i pm' so'
   walk_at "v"
   refine⟨np,st',P,ss',rfl,n4,hst',by omega,ne,fun H5 e5=>?_⟩
   rw[hd]
   intro nd5 oc hoc
   obtain⟨H6,eH6,e6⟩:∃ H6,upd H5 d (czO oc d)=H6∧Ext H3 H6:=by
    refine⟨_,rfl,fun b o h=>?_⟩
    by_cases z:b=d
    ·subst z;rw[hoc] at h;cases h;exact j07
    ·rw[j08 z];exact (e4.tr e5) _ _ (by rw[j1k z];exact h)
   rw[eH6]
   have B6:=B3.ext e6
   obtain⟨dx6,wo6,dw6,st6,q6',ss6,k6⟩:=B6.ex
   have h16:=k6.hr
   walk_at "v"
   refine⟨r,_,z,wsK P k i,rfl,B6,j2a pn pl k1 k8 pN i,pN _ (j65 pl i),fun H7 B7 b7=>?_⟩
   rw[(j76 pn pl k1 i).1] at B7
   have nwr:wl≠r:=j58 (e6 _ _ q3) h16 (by intro z;cases z)
   have q7:=b7 _ _ nwr (e6 _ _ q3)
   have L7:=(L3.mono (Ext.toT e6)).but h16 b7
   have C7:=(C3.mono (Ext.toT e6)).but h16 b7
   walk_at "v"
   refine j4m q7 (by simp;omega) fun H8 q8 b8=>?_
   refine⟨_,_,_,rfl,KeepAt.butC q7 (jkv pn pl k1 i) b8 B7,?_,L7.butL q7 b8,C7.butL q7 b8,fun b o nb hb=>?_⟩
   ·rw[q8]
    simp[wssK,List.range_succ]
   ·exact b8 b o (j05 hb n1') (b7 b o nb (e6 b o (b3 b o nb hb)))
  ·rintro σ H3 ⟨u1,u2,z,rfl,B3,q3,L3,C3,b3⟩
   rw[Int.toNat_natCast] at B3 q3
   walk_at "v"
   exact hq wl z H3 n1' q3 B3 C3 b3
abbrev TabC (a:Adr) (H:Hp):Prop:=TabR H a.tb_z1 j2h j0s
def j2l (a:Adr):Sp:=fun vs H Q _=>∃ (k m:Nat),vs=[.int (k:Nat),.int (m:Nat)]∧1≤k∧k≤8∧m≤1000∧TabC a H∧TabB a H ∧
 ∀ tp sp wl yl ys Ys H',NewT H wl→NewT H yl→wl≠yl→EnK H' tp sp wl yl k m ys Ys→TabC a H'→TabB a H'→ExtT H H'→Q (.ref tp) H'
theorem j0u (T:Txt K mg a):FnOk P w K mg base (CXU P w) 8 a.f_z1 a.d_z1 ["k","many"] (j2l a):=by
 refine T.F_z1.okL T.ck_z1 jlu (fun vs H Q E h=>?_) (fun A outer s H vs Q E hr h=>?_)
 ·obtain⟨k,m,rfl,k1,k8,hm,hT,hTB,hq⟩:=h
  rfl
 ·obtain⟨k,m,rfl,k1,k8,hm,hT,hTB,hq⟩:=h
  have zc_Keeper:=T.cl_Keeper
  have zn_Keeper_row:=T.na_Keeper_row
  have zn_Keeper_world:=T.na_Keeper_world
  have zn_Keeper_standing:=T.na_Keeper_standing
  have zn_Keeper_spent:=T.na_Keeper_spent
  have zc_Store:=T.cl_Store
  have zn_Store_many:=T.na_Store_many
  refine⟨_,(j02 (j0q (i:=2) jlu.nd rfl (by first | exact Or.inl rfl | exact Or.inr rfl) (j31 oSlV (j7l (v:=V.ref a.v_NAMES) (by rfl) T.m_NAMES rfl) j5h (j5i (pv 0))))
   (j02 (j0q (i:=3) jlu.nd rfl (by first | exact Or.inl rfl | exact Or.inr rfl) (j9v T.mk_Keeper (j2c T) (hr.mono (by decide)) (by rfl) T.m_Keeper T.b_z11 .nil j0x (j00 (pv 2) j03)))
   (j02 (j0q (i:=4) jlu.nd rfl (by first | exact Or.inl rfl | exact Or.inr rfl) (jgw (i:=0) (j2r T) (hr.mono (by decide)) (by rfl) T.m_z4 T.F_z4.kp (T.b_z4) rfl rfl rfl rfl (j00 (pv 3) (j00 (pv 1) (j00 (jgx (c:=a.ck_z1) (P:=a.tb_z1) rfl T.hd_enemy_of_keeper rfl (by rfl)) j03)))))
   (j04 (j0b (j6i (j00 (pv 2) (j00 (pv 4) (j00 (j4i oIx (j0g (jku T) (hr.mono (by decide)) (by rfl) T.m_z35 T.F_z35.kp T.b_z35 .nil j0x (j00 (j30 (pv 3) rfl) (j00 (j0m ja4 (by rfl) T.n_tuple PyProof.Rows.boot_tuple (j00 (j06 j6w (by rfl) T.n_sorted PyProof.Rows.boot_sorted (j00 (pv 2) j03)) j03)) (j00 (pv 4) j03)))) j0c (fun _ _=>rfl)) j03))))))))),?_⟩
  obtain⟨pn,pl,ps,pN,pt⟩:=j1w k k8
  have hN:Names (nmsK.take k):=by
   rw[← pt,← j29 pl]
   exact j2a pn pl k1 k8 pN 0
  walk_at "v"
  refine .inl (.inl (.inl ⟨a.v_NAMES,_,rfl,T.q_NAMES H,?_,fun l nl=>?_⟩))
  ·rintro⟨_,z⟩
   rw[HT.sIx_nat,List.length_map] at z
   have:min k 9=9:=z
   omega
  have el:cutV (nmsK.map V.str) none (some (k:Int))=(nmsK.take k).map V.str:=jkp (show k≤9 by omega)
  obtain⟨H1,eH1,q1,e1⟩:∃ H1,upd H l (.tup (cutV (nmsK.map V.str) none (some (k:Int))))=H1∧H1 l=some (.tup ((nmsK.take k).map V.str))∧Ext H H1:=⟨_,rfl,by rw[← el];exact j07,j0j nl⟩
  have eH1':upd H l (.tup (cutV (List.map V.str ["a","b","c","d","e","f","g","h","i"]) none (some (k:Int))))=H1:=eH1
  rw[eH1']
  walk_at "v"
  intro r dr k1' k2 k3
  have y1:Ext H1 (upd (upd H1 dr (.own r)) r (.ins a.c_Keeper dr [])):=fun b o hb=>by rw[j08 (j05 hb k1'),j08 (j05 hb k2)];exact hb
  refine⟨r,dr,l,nmsK.take k,rfl,j07,y1 _ _ q1,hN,fun H2 B2 b2=>⟨rfl,?_⟩⟩
  have x12:Ext H1 H2:=fun b o h=>b2 b o (j05 h k1') (y1 _ _ h)
  have x2:Ext H H2:=e1.tr x12
  have nr:H r=none:=e1.free k1'
  walk_at "v"
  unfold jk5
  walk_at "v"
  refine⟨TabR.ext x2 hT,fun f H3 L3 T3 e3 b3=>?_⟩
  obtain⟨ps2,hp2⟩:=(TabR.ext x2 hT).is
  have TB3:TabB a H3:=TabR.keep hp2 T.nt_best_enemy_of_keeper b3 (TabR.ext x2 hTB)
  have x3:ExtT H H3:=(Ext.toT x2).tr e3
  have q13:=e3 _ _ (x12 _ _ q1) rfl
  walk_at "v"
  refine⟨.int (k:Nat),rfl,fun nd oc u hoc ru=>?_⟩
  generalize hdd:s.heap.objs.size+1=dd at nd L3 ⊢
  have eu:Ext H3 (upd H3 dd (czO oc dd)):=j0j nd
  have B3:=B2.extT e3
  have hd':upd H3 dd (czO oc dd) dd=some (czO oc dd):=j07
  refine⟨r,f,dd,k,m,rfl,B3.ext eu,k1,k8,L3.mono (Ext.toT eu),⟨oc,u,j07,hoc,ru⟩,hm,fun wl z H4 nw q4 B4 C4 b4=>?_⟩
  obtain⟨oc4,uc4,hoc4,_,_⟩:=id C4
  have nwd:wl≠dd:=fun z=>by rw[z,hd'] at nw;cases nw
  have nw3:H3 wl=none:=by rw[j08 nwd] at nw;exact nw
  have B5:KeepAt a (del H4 dd) r (rowK (nmsK.take (k+1)) k m) z:=KeepAt.kp (fun b o h no=>by
   rw[j1k (fun z=>by rw[z,hoc4] at h;cases h;exact no _ _ rfl)]
   exact h) B4
  obtain⟨H5,eH5,b5,q5,B5⟩:∃ H5,del H4 dd=H5∧But r H3 H5∧H5 wl=some (.lst ((wssK (nmsK.take (k+1)) k m).map V.str))∧KeepAt a H5 r (rowK (nmsK.take (k+1)) k m) z:=by
   refine⟨_,rfl,fun b o nb h=>?_,by rw[j1k nwd];exact q4,B5⟩
   have nbd:b≠dd:=j05 h nd
   rw[j1k nbd]
   exact b4 b o nb (by rw[j08 nbd];exact h)
  rw[eH5]
  obtain⟨dx3,wo3,dw3,st3,q3',ss3,g3⟩:=B3.ex
  obtain⟨dx5,wo5,dw5,st5,q5',ss5,y5⟩:=B5.ex
  have g1:=g3.hr
  have yr:=y5.hr
  have yw:=y5.hw
  have x5:ExtT H H5:=fun b o h no=>b5 b o (j05 h nr) (x3 b o h no)
  have q15:=b5 _ _ (j58 q13 g1 (by intro z;cases z)) q13
  have T5:TabC a H5:=TabR.but g1 b5 T3
  have TB5:TabB a H5:=TabR.but g1 b5 TB3
  have nwl:NewT H wl:=jc3 x3 nw3
  walk_at "v"
  refine j38 q15 (by have:=hN.hi;omega) fun l6 s6 H6 n6 p6 o6 q6 e6=>?_
  walk_at "v"
  refine j33 q6 fun t7 H7 n7 q7 e7=>?_
  have x57:=e6.tr e7
  have es6:s6=stK (nmsK.take (k+1)) k 0:=j4z pn pl ps (by rw[pt];exact p6) o6
  have hst:StP (nmsK.take (k+1)) k s6:=⟨o6,p6.nodup_iff.mpr hN.nd,by rw[p6.length_eq,← pt,List.length_take];omega,fun s hs=>List.mem_of_mem_take (by rw[pt];exact p6.mem_iff.mp hs)⟩
  walk_at "v"
  refine⟨wo5,dw5,t7,wl,_,s6,wssK (nmsK.take (k+1)) k m,nmsK.take (k+1),k,rfl,x57 _ _ yw,q7,x57 _ _ q5,hst,pn,pl,k1,k8,fun x hx=>?_,by simp;omega,TabR.ext x57 TB5,fun tp yl H8 c ys Ys ny q8 qy ry wy mn T8 e8 b8=>?_⟩
  ·obtain⟨i,_,rfl⟩:=List.mem_map.mp hx
   exact j65 pl i
  rw[es6] at wy mn
  obtain⟨ps5,hp5⟩:=(TabR.ext x57 TB5).is
  have TC8:TabC a H8:=TabR.keep hp5 (Ne.symm T.nt_best_enemy_of_keeper) b8 (TabR.ext x57 T5)
  walk_at "v"
  refine j6r q8 rfl ?_
  walk_at "v"
  intro tq H9 n9 q9 e9
  have q57:=x57 _ _ q5
  have nyl:wl≠yl:=fun z=>by
   have:=ny _ (by rw[← z];exact q57)
   cases this
  refine hq tq l wl yl ys Ys H9 nwl (fun o ho=>?_) nyl ⟨q9,e9 _ _ (e8 _ _ (x57 _ _ q15) rfl),e9 _ _ (e8 _ _ q57 rfl),e9 _ _ qy,ry.mono e9,c,wy,mn⟩ (TabR.ext e9 TC8) (TabR.ext e9 T8) (((x5.ext x57).tr e8).ext e9)
  cases tn:noTb o with
  | false=>rfl
  | true=>have:=ny _ (x57 _ _ (x5 _ _ ho tn));rw[tn] at this;cases this
def jlw (ss ws:List Str) (Ys:List (List Str)):D:=.tup [.tup (ss.map D.str),.lst (ws.map D.str),.lst (Ys.map fun L=>.tup (L.map D.str))]
theorem jdv {H:Hp}{vs:List V}{Ls:List (List Str)} (r:RefsHT H vs Ls):RepL H (Ls.map fun L=>.tup (L.map D.str)) vs:=by
 induction r with
 | nil=>exact RepL.nil
 | cons c _ ih=>exact RepL.cons (j8h c) ih
theorem j8o {H:Hp}{t e wl yl:Addr}{ss ws:List Str}{ys:List V}{Ys:List (List Str)} (h1:H t=some (.tup [.ref e,.ref wl,.ref yl])) (h2:H e=some (.tup (ss.map V.str))) (h3:H wl=some (.lst (ws.map V.str))) (h4:H yl=some (.lst ys)) (h5:RefsHT H ys Ys):Rep H (jlw ss ws Ys) (.ref t) :=
 Rep.tupI h1 (.cons (j8h h2) (.cons (j28 h3) (.cons (Rep.lstI h4 (jdv h5)) .nil)))
theorem jkw:∀ Ys:List (List Str),D.fineL (Ys.map fun L=>D.tup (L.map D.str))=true
 | []=>rfl
 | t :: ts=>by
  show ((D.tup (t.map D.str)).fine && D.fineL (ts.map fun L=>D.tup (L.map D.str)))=true
  rw[jkw ts,jor]
  rfl
theorem depYs:∀ Ys:List (List Str),D.depthL (Ys.map fun L=>D.tup (L.map D.str))≤1
 | []=>by decide
 | t :: ts=>by
  have:=depYs ts
  show max (D.depthL (t.map D.str)+1) (D.depthL (ts.map fun L=>D.tup (L.map D.str)))≤1
  rw[depS]
  omega
theorem jc6 (ss ws:List Str) (Ys:List (List Str)):(jlw ss ws Ys).fine=true:=by
 show ((D.tup (ss.map D.str)).fine && ((D.tup (ws.map D.str)).fine && (D.fineL (Ys.map fun L=>D.tup (L.map D.str)) && true)))=true
 rw[jor,jor,jkw]
 rfl
theorem j9f (ss ws:List Str) (Ys:List (List Str)):Nat.ble (jlw ss ws Ys).depth 5=true:=by
 have h:=depYs Ys
 refine Nat.ble_eq_true_of_le ?_
 show max (D.depthL (ss.map D.str)+1) (max (D.depthL (ws.map D.str)+1) (max (D.depthL (Ys.map fun L=>D.tup (L.map D.str))+1) 0))+1≤5
 rw[depS,depS]
 omega
def j7h (a:Adr):Sp:=fun vs H Q _=>∃ (k n:Nat),vs=[.int (k:Nat),.int (n:Nat)]∧1≤k∧k≤8∧1≤n∧n≤100∧TabC a H∧TabB a H∧∀ H',TabC a H'→TabB a H'→ExtT H H'→Q (.bl true) H'
theorem j7i (T:Txt K mg a):FnOk P w K mg base (CXU P w) 9 a.f_z22 a.d_z22 ["_law_k","_law_many"] (j7h a):=by
 refine T.F_z22.okU j96 (fun vs H Q E h=>?_) (fun cdv A outer s H vs Q E hr h=>?_)
 ·obtain⟨k,n,rfl,k1,k8,n1,n100,hT,hTB,hq⟩:=h
  rfl
 ·obtain⟨k,n,rfl,k1,k8,n1,n100,hT,hTB,hq⟩:=h
  have zc_Keeper:=T.cl_Keeper
  have zn_Keeper_row:=T.na_Keeper_row
  have zn_Keeper_world:=T.na_Keeper_world
  have zn_Keeper_standing:=T.na_Keeper_standing
  have zn_Keeper_spent:=T.na_Keeper_spent
  have zc_Store:=T.cl_Store
  have zn_Store_many:=T.na_Store_many
  refine⟨_,(j02 (j0q (i:=2) j96.nd rfl (by first | exact Or.inl rfl | exact Or.inr rfl) (j0g (j0u T) (hr.mono (by decide)) (by rfl) T.m_z1 T.F_z1.kp T.b_z1 .nil j0x (j00 (pv 0) (j00 (pv 1) j03))))
   (j02 (j1u (j12 (ptT (j0g (j3t T) (hr.mono (by decide)) (by rfl) T.m_z30 T.F_z30.kp T.b_z30 .nil j0x (j00 (pv 2) (j00 (pv 0) (j00 (pv 1) j03)))) (fun _=>rfl))) (j04 (j0b j3z)) j0f)
   (j02 (jhr (pv 2) (j9j rfl (j0w (j0d (i:=3) j96.nd rfl (by first | exact Or.inl rfl | exact Or.inr rfl)) (j0w (j0d (i:=4) j96.nd rfl (by first | exact Or.inl rfl | exact Or.inr rfl)) (j0w (j0d (i:=5) j96.nd rfl (by first | exact Or.inl rfl | exact Or.inr rfl)) j5a)))))
   (j02 (j0q (i:=6) j96.nd rfl (by first | exact Or.inl rfl | exact Or.inr rfl) (j6i (j00 (pv 3) (j00 (j0m jhi (by rfl) T.n_list PyProof.Rows.boot_list (j00 (pv 4) j03)) (j00 (j0m jhi (by rfl) T.n_list PyProof.Rows.boot_list (j00 (pv 5) j03)) j03)))))
   (j02 (j1u (j12 (ptT (j0g (j3t T) (hr.mono (by decide)) (by rfl) T.m_z30 T.F_z30.kp T.b_z30 .nil j0x (j00 (j0g (j0u T) (hr.mono (by decide)) (by rfl) T.m_z1 T.F_z1.kp T.b_z1 .nil j0x (j00 (j1h j8r j0c (pv 0)) (j00 (j1h j8r j0c (pv 1)) j03))) (j00 (j1h j8r j0c (pv 0)) (j00 (j1h j8r j0c (pv 1)) j03)))) (fun _=>rfl))) (j04 (j0b j3z)) j0f)
   (j02 (j1u (j12 (ptT (j0g (j4d T) (hr.mono (by decide)) (by rfl) T.m_z27 T.F_z27.kp T.b_z27 .nil j0x (j00 (j6i (j00 (pv 3) (j00 (pv 4) (j00 (pv 5) j03)))) (j00 (pv 6) j03))) (fun _=>rfl))) (j04 (j0b j3z)) j0f)
   (j02 (j1z (pe_bm0 PySem.F.plainAttrs_list PySem.F.slot_list_clear PySem.F.type_list_clear jfg (pv 4)))
   (j02 (j1z (jlp PySem.F.plainAttrs_list PySem.F.slot_list_append PySem.F.type_list_append j21 (pv 5) (j00 (pv 3) j03)))
   (j04 (j0b (j0g (j3t T) (hr.mono (by decide)) (by rfl) T.m_z30 T.F_z30.kp T.b_z30 .nil j0x (j00 (j0g (j0u T) (hr.mono (by decide)) (by rfl) T.m_z1 T.F_z1.kp T.b_z1 .nil j0x (j00 (pv 0) (j00 (pv 1) j03))) (j00 (pv 0) (j00 (pv 1) j03)))))))))))))),?_⟩
  walk_at "v"
  refine⟨k,n,rfl,k1,k8,by omega,hT,hTB,fun t e wl yl ys Ys H1 nw ny nwy E1 T1 TB1 x1=>?_⟩
  walk_at "v"
  refine⟨t,e,wl,yl,k,n,ys,Ys,rfl,E1,k1,k8,n1,by omega,fun H2 e2=>?_⟩
  have E2:=E1.ext e2
  have lY:=(E2.at k8).1
  have lr:=E2.rr.length
  have ht2:=E2.tt
  walk_at "v"
  refine je7 E2.ww fun l3 H3 n3 q3 e3=>?_
  walk_at "v"
  refine je7 (e3 _ _ E2.yy) fun l4 H4 n4 q4 e4=>?_
  walk_at "v"
  intro t5 H5 n5 q5 e5
  have E5:=((E2.ext e3).ext e4).ext e5
  have e25:Ext H2 H5:=(e3.tr e4).tr e5
  have T5:=TabR.ext (e2.tr e25) T1
  have TB5:=TabR.ext (e2.tr e25) TB1
  obtain⟨k',ek',k1',k8'⟩:∃ k':Nat,(9:Int)-k=(k':Nat)∧1≤k'∧k'≤8:=⟨9-k,by omega,by omega,by omega⟩
  obtain⟨n',en',n1',n100'⟩:∃ n':Nat,(101:Int)-n=(n':Nat)∧1≤n'∧n'≤100:=⟨101-n,by omega,by omega,by omega⟩
  walk_at "v"
  rw[ek']
  walk_at "v"
  rw[en']
  walk_at "v"
  refine⟨k',n',rfl,k1',k8',by omega,T5,TB5,fun t' e' wl' yl' ys' Ys' H6 nw' ny' nwy' E6 T6 TB6 x6=>?_⟩
  walk_at "v"
  rw[ek']
  walk_at "v"
  rw[en']
  walk_at "v"
  refine⟨t',e',wl',yl',k',n',ys',Ys',rfl,E6,k1',k8',n1',by omega,fun H7 e7=>?_⟩
  have e57:ExtT H5 H7:=x6.ext e7
  have E7:=E5.extT e57
  walk_at "v"
  intro t8 H8 n8 q8 e8
  have E8:=E7.ext e8
  have e58:=e57.ext e8
  have k8r:Rep H8 (jlw (nmsK.take k) (wssK (nmsK.take (k+1)) k n) Ys) (.ref t5):=j8o (e58 _ _ q5 rfl) E8.ss (e58 _ _ ((e4.tr e5) _ _ q3) rfl) (e58 _ _ (e5 _ _ q4) rfl) E8.rr
  walk_at "v"
  refine jbw (j8o q8 E8.ss E8.ww E8.yy E8.rr) k8r (jc6 _ _ _) (j9f _ _ _) fun H9 e9=>?_
  have E9:=E8.ext e9
  have x9:ExtT H H9:=(((x1.ext (e2.tr e25)).tr e57).ext (e8.tr e9))
  have T9:=TabR.ext (e7.tr (e8.tr e9)) T6
  have TB9:=TabR.ext (e7.tr (e8.tr e9)) TB6
  have hw9:=E9.ww
  walk_at "v"
  refine jip hw9 fun H10 q10 b10=>?_
  have yl10:=b10 _ _ nwy.symm E9.yy
  walk_at "v"
  refine j4m yl10 (by omega) fun H11 q11 b11=>?_
  have x11:ExtT H H11:=ExtT.butN (ExtT.butN x9 b10 nw) b11 ny
  have T11:TabC a H11:=TabR.butL yl10 b11 (TabR.butL hw9 b10 T9)
  have TB11:TabB a H11:=TabR.butL yl10 b11 (TabR.butL hw9 b10 TB9)
  walk_at "v"
  refine⟨k,n,rfl,k1,k8,by omega,T11,TB11,fun t' e' wl' yl' ys' Ys' H12 nw' ny' nwy' E12 T12 TB12 x12=>?_⟩
  walk_at "v"
  exact⟨t',e',wl',yl',k,n,ys',Ys',rfl,E12,k1,k8,n1,by omega,fun H13 e13=>hq H13 (TabR.ext e13 T12) (TabR.ext e13 TB12) ((x11.tr x12).ext e13)⟩
def jc7 (K:PySem.W.Frag):Sp:=fun vs H Q _=>∃ (p:Addr) (ns:List Int) (k:Int),vs=[.ref p,.int k]∧SqL K H p (ns.map V.int)∧ns.length≤63∧0≤k∧k≤1000∧(∀ z∈ns,ib z≤1048576)∧∀ c,ib c≤1048576→Q (.int c) H
theorem jc8 (T:Txt K mg a):FnOk P w K mg base (CXU P w) 1 a.f_z32 a.d_z32 ["_law_script","_law_k"] (jc7 K):=by
 refine T.F_z32.okU sc_z32 (fun vs H Q E h=>?_) (fun cdv A outer s H vs Q E hr h=>?_)
 ·obtain⟨p,ns,k,rfl,hS,hz,h0,h1,hb,hq⟩:=h
  rfl
 ·obtain⟨p,ns,k,rfl,hS,hz,h0,h1,hb,hq⟩:=h
  refine⟨_,(j02 (j1u (j0h (oEq hr) (j06 j2m (by rfl) T.n_len PySem.boot_len (j00 (pv 0) j03)) j0c (j0o _)) (j04 (j0b (pv 1))) j0f)
   (j04 (j0b (j4i oIx (pv 0) (j1h j8s (pv 1) (j06 j2m (by rfl) T.n_len PySem.boot_len (j00 (pv 0) j03))) (fun _ _=>rfl))))),?_⟩
  walk_at "v"
  refine j5s hS ?_
  rw[List.length_map]
  walk_at "v"
  refine iteD (fun h=>?_) (fun h=>?_)
  ·walk_at "v"
   exact hq _ (Nat.le_trans (intBits_le_64 (by omega) (by omega)) (by decide))
  ·have hl:(0:Int) < ns.length:=by omega
   have a0:=Int.emod_nonneg k (show (ns.length:Int)≠0 by omega)
   have a1:=Int.emod_lt_of_pos k hl
   walk_at "v"
   refine j5s hS ?_
   rw[List.length_map]
   walk_at "v"
   refine r_ixS hS (jfw a0 a1) ?_
   refine hq _ (hb _ ?_)
   rw[List.getD_eq_getElem?_getD,List.getElem?_eq_getElem (by omega)]
   exact List.getElem_mem _
def jc9 (K:PySem.W.Frag):Sp:=fun vs H Q _=>∃ (p:Addr) (ns:List Int) (k:Int),vs=[.ref p,.int k]∧SqL K H p (ns.map V.int)∧ns.length≤63∧0≤k∧k≤1000∧(∀ z∈ns,ib z≤1048576)∧∀ n,0≤n→n < 2147483647→Q (.int n) H
theorem j6c (T:Txt K mg a):FnOk P w K mg base (CXU P w) 2 a.f_z31 a.d_z31 ["_law_script","_law_k"] (jc9 K):=by
 refine T.F_z31.okU jkf (fun vs H Q E h=>?_) (fun cdv A outer s H vs Q E hr h=>?_)
 ·obtain⟨p,ns,k,rfl,hS,hz,h0,h1,hb,hq⟩:=h
  rfl
 ·obtain⟨p,ns,k,rfl,hS,hz,h0,h1,hb,hq⟩:=h
  refine⟨_,(j02 (j1u (j0h (oEq hr) (j06 j2m (by rfl) T.n_len PySem.boot_len (j00 (pv 0) j03)) j0c (j0o _)) (j04 (j0b (j1h j8s (j1h jhl (j1h j5o (j1h jhl (pv 1) (pv 1)) j0c) j0c) j0c))) j0f)
   (j02 (j0q (i:=2) jkf.nd rfl (by first | exact Or.inl rfl | exact Or.inr rfl) (j1h j6q (pv 1) (j06 j2m (by rfl) T.n_len PySem.boot_len (j00 (pv 0) j03))))
   (j04 (j0b (j1h j8s (j1h jhl (j1h j5o (j1h j8s (j0g (jc8 T) (hr.mono (by decide)) (by rfl) T.m_z32 T.F_z32.kp T.b_z32 .nil j0x (j00 (pv 0) (j00 (pv 1) j03))) j0c) j0c) (j1h j5o j0c (j1h jhl (j1h jhl j0c (pv 2)) (pv 2)))) j0c))))),?_⟩
  walk_at "v"
  refine j5s hS ?_
  rw[List.length_map]
  walk_at "v"
  refine iteD (fun h=>?_) (fun h=>?_)
  ·walk_at "v"
   exact hq _ (by omega) (by omega)
  ·have hl:(0:Int) < ns.length:=by omega
   have d0:0≤k / (ns.length:Int):=Int.ediv_nonneg h0 (by omega)
   have d1:k / (ns.length:Int)≤k:=Int.ediv_le_self _ h0
   walk_at "v"
   refine j5s hS ?_
   rw[List.length_map]
   walk_at "v"
   generalize k / (ns.length:Int)=tn at *
   refine⟨p,ns,k,rfl,hS,hz,h0,h1,hb,fun c hc=>?_⟩
   walk_at "v"
   exact hq _ (by omega) (by omega)
def sp_law (K:PySem.W.Frag) (a:Adr):Sp:=fun vs H Q _=>∃ (p:Addr) (ns:List Int),vs=[.ref p]∧SqL K H p (ns.map V.int)∧ns.length≤63∧(∀ z∈ns,ib z≤1048576)∧H a.tb_z35=some (.tbl #[])∧H a.tb_z1=some (.tbl #[])∧∀ H',Q (.bl true) H'
theorem ok_law (T:Txt K mg a):FnOk P w K mg base (CXU P w) 10 a.f_z36 a.d_z36 ["_law_script"] (sp_law K a):=by
 refine T.F_z36.okU jkd (fun vs H Q E h=>?_) (fun cdv A outer s H vs Q E hr h=>?_)
 ·obtain⟨p,cs,rfl,hS,hl,hb,hTB,hT,hq⟩:=h
  rfl
 ·obtain⟨p,cs,rfl,hS,hl,hb,hTB,hT,hq⟩:=h
  refine⟨_,(j02 (j2y PassesOwn.never rfl (pi_by2 rfl T.n_range (j00 j0c (j00 (j06 (cMin2 rfl) (by rfl) T.n_min PyProof.Rows.boot_min (j00 (j06 (cMax2 rfl) (by rfl) T.n_max PyProof.Rows.boot_max (j00 (j06 j2m (by rfl) T.n_len PySem.boot_len (j00 (pv 0) j03)) (j00 j0c j03))) (j00 j0c j03))) (j00 j0c j03)))) (j0d (i:=1) jkd.nd rfl (by first | exact Or.inl rfl | exact Or.inr rfl)) (j04 (j1u (j12 (ptT (j0g (j7i T) (hr.mono (by decide)) (by rfl) T.m_z22 T.F_z22.kp T.b_z22 .nil j0x (j00 (j1h j5o j0c (j1h j8s (j1h j6q (j0g (j6c T) (hr.mono (by decide)) (by rfl) T.m_z31 T.F_z31.kp T.b_z31 .nil j0x (j00 (pv 0) (j00 (pv 1) j03))) j0c) j0c)) (j00 (j1h j5o j0c (j1h j8s (j1h j6q (j0g (j6c T) (hr.mono (by decide)) (by rfl) T.m_z31 T.F_z31.kp T.b_z31 .nil j0x (j00 (pv 0) (j00 (j1h j5o (pv 1) j0c) j03))) j0c) j0c)) j03))) (fun _=>rfl))) (j04 (j0b j3z)) j0f)))
   (j04 (j0b j3z))),?_⟩
  walk_at "v"
  refine j5s hS ?_
  rw[List.length_map]
  walk_at "v"
  refine⟨_,rfl,by omega,by omega,jje (fun i σ H2=>(∃ u,σ=[some (.ref p),u])∧TabC a H2∧TabB a H2∧ExtT H H2) ⟨⟨none,rfl⟩,.inl hT,.inl hTB,ExtT.rfl'⟩ ?_ ?_⟩
  ·rintro i σ H2 hi ⟨⟨u,rfl⟩,T2,TB2,x2⟩
   walk_at "v"
   refine⟨p,cs,_,rfl,x2.seqL hS,hl,by omega,by omega,hb,fun k k0 k1=>?_⟩
   walk_at "v"
   refine⟨p,cs,_,rfl,x2.seqL hS,hl,by omega,by omega,hb,fun k' k0' k1'=>?_⟩
   obtain⟨m,em,m1,m8⟩:∃ m:Nat,1+k / 8 % 8=(m:Nat)∧1≤m∧m≤8:=⟨(1+k / 8 % 8).toNat,by omega,by omega,by omega⟩
   obtain⟨n,en,n1,n100⟩:∃ n:Nat,1+k' / 8 % 100=(n:Nat)∧1≤n∧n≤100:=⟨(1+k' / 8 % 100).toNat,by omega,by omega,by omega⟩
   walk_at "v"
   rw[em,en]
   refine⟨m,n,rfl,m1,m8,n1,n100,T2,TB2,fun H3 T3 TB3 e3=>?_⟩
   walk_at "v"
   exact⟨⟨_,rfl⟩,T3,TB3,x2.tr e3⟩
  ·rintro σ H2 ⟨⟨u,rfl⟩,T2,TB2,x2⟩
   walk_at "v"
   exact hq H2
end
theorem all_mk {ts:List Addr}{l:PySem.W.OpenLaw}{w:World}{K:PySem.W.Frag}{h:Heap}{mg:Str→Option Value}{fa:Addr} (X:K.In h) (G:h.Ns mainGlobals mg) (hfa:mg "law"=some (.ref fa))
  {f_z36:Addr}{od_z36 an_z36:Option Addr}{sl_z36:Array (Option Value)}{oc_z36 kV_z36 dc_z36 pm_z36 jlm ct_z36:Value}
  {f_z22:Addr}{od_z22 an_z22:Option Addr}{sl_z22:Array (Option Value)}{oc_z22 kV_z22 dc_z22 pm_z22 jl9 ct_z22:Value}
  {f_z30:Addr}{od_z30 an_z30:Option Addr}{sl_z30:Array (Option Value)}{oc_z30 kV_z30 dc_z30 pm_z30 jlh ct_z30:Value}
  {f_z26:Addr}{od_z26 an_z26:Option Addr}{sl_z26:Array (Option Value)}{oc_z26 kV_z26 dc_z26 pm_z26 jld ct_z26:Value}
  {f_z27:Addr}{od_z27 an_z27:Option Addr}{sl_z27:Array (Option Value)}{oc_z27 kV_z27 dc_z27 pm_z27 jle ct_z27:Value}
  {f_z23:Addr}{od_z23 an_z23:Option Addr}{sl_z23:Array (Option Value)}{oc_z23 kV_z23 dc_z23 pm_z23 jla ct_z23:Value}
  {f_z19:Addr}{od_z19 an_z19:Option Addr}{sl_z19:Array (Option Value)}{oc_z19 kV_z19 dc_z19 pm_z19 jl6 ct_z19:Value}
  {f_z25:Addr}{od_z25 an_z25:Option Addr}{sl_z25:Array (Option Value)}{oc_z25 kV_z25 dc_z25 pm_z25 jlc ct_z25:Value}
  {f_z24:Addr}{od_z24 an_z24:Option Addr}{sl_z24:Array (Option Value)}{oc_z24 kV_z24 dc_z24 pm_z24 jlb ct_z24:Value}
  {f_z9:Addr}{od_z9 an_z9:Option Addr}{sl_z9:Array (Option Value)}{oc_z9 kV_z9 dc_z9 pm_z9 cd_z9 ct_z9:Value}
  {f_z0:Addr}{od_z0 an_z0:Option Addr}{sl_z0:Array (Option Value)}{oc_z0 kV_z0 dc_z0 pm_z0 cd_z0 ct_z0:Value}
  {f_z6:Addr}{od_z6 an_z6:Option Addr}{sl_z6:Array (Option Value)}{oc_z6 kV_z6 dc_z6 pm_z6 cd_z6 ct_z6:Value}
  {f_z13:Addr}{od_z13 an_z13:Option Addr}{sl_z13:Array (Option Value)}{oc_z13 kV_z13 dc_z13 pm_z13 jl0 ct_z13:Value}
  {f_z5:Addr}{od_z5 an_z5:Option Addr}{sl_z5:Array (Option Value)}{oc_z5 kV_z5 dc_z5 pm_z5 cd_z5 ct_z5:Value}
  {f_z7:Addr}{od_z7 an_z7:Option Addr}{sl_z7:Array (Option Value)}{oc_z7 kV_z7 dc_z7 pm_z7 cd_z7 ct_z7:Value}
  {f_z28:Addr}{od_z28 an_z28:Option Addr}{sl_z28:Array (Option Value)}{oc_z28 kV_z28 dc_z28 pm_z28 jlf ct_z28:Value}
  {f_z11:Addr}{od_z11 an_z11:Option Addr}{sl_z11:Array (Option Value)}{oc_z11 kV_z11 dc_z11 pm_z11 jky ct_z11:Value}
  {f_z18:Addr}{od_z18 an_z18:Option Addr}{sl_z18:Array (Option Value)}{oc_z18 kV_z18 dc_z18 pm_z18 jl5 ct_z18:Value}
  {f_z3:Addr}{od_z3 an_z3:Option Addr}{sl_z3:Array (Option Value)}{oc_z3 kV_z3 dc_z3 pm_z3 cd_z3 ct_z3:Value}
  {f_z20:Addr}{od_z20 an_z20:Option Addr}{sl_z20:Array (Option Value)}{oc_z20 kV_z20 dc_z20 pm_z20 jl7 ct_z20:Value}
  {f_z17:Addr}{od_z17 an_z17:Option Addr}{sl_z17:Array (Option Value)}{oc_z17 kV_z17 dc_z17 pm_z17 jl4 ct_z17:Value}
  {f_z2:Addr}{od_z2 an_z2:Option Addr}{sl_z2:Array (Option Value)}{oc_z2 kV_z2 dc_z2 pm_z2 cd_z2 ct_z2:Value}
  {f_z21:Addr}{od_z21 an_z21:Option Addr}{sl_z21:Array (Option Value)}{oc_z21 kV_z21 dc_z21 pm_z21 jl8 ct_z21:Value}
  {f_z8:Addr}{od_z8 an_z8:Option Addr}{sl_z8:Array (Option Value)}{oc_z8 kV_z8 dc_z8 pm_z8 cd_z8 ct_z8:Value}
  {f_z14:Addr}{od_z14 an_z14:Option Addr}{sl_z14:Array (Option Value)}{oc_z14 kV_z14 dc_z14 pm_z14 jl1 ct_z14:Value}
  {f_z1:Addr}{od_z1 an_z1:Option Addr}{sl_z1:Array (Option Value)}{oc_z1 kV_z1 dc_z1 pm_z1 ct_z1:Value}
  {ck_z1 tb_z1:Addr}{cdd_enemy_of_keeper:Option Addr}{cvs_enemy_of_keeper:Array Value}{csl_enemy_of_keeper:Array (Option Value)}
  {f_z35:Addr}{od_z35 an_z35:Option Addr}{sl_z35:Array (Option Value)}{oc_z35 kV_z35 dc_z35 pm_z35 ct_z35:Value}
  {ck_z35 tb_z35:Addr}{cdd_best:Option Addr}{cvs_best:Array Value}{csl_best:Array (Option Value)}
  {f_z15:Addr}{od_z15 an_z15:Option Addr}{sl_z15:Array (Option Value)}{oc_z15 kV_z15 dc_z15 pm_z15 jl2 ct_z15:Value}
  {f_z33:Addr}{od_z33 an_z33:Option Addr}{sl_z33:Array (Option Value)}{oc_z33 kV_z33 dc_z33 pm_z33 jlk ct_z33:Value}
  {f_z12:Addr}{od_z12 an_z12:Option Addr}{sl_z12:Array (Option Value)}{oc_z12 kV_z12 dc_z12 pm_z12 jkz ct_z12:Value}
  {f_z10:Addr}{od_z10 an_z10:Option Addr}{sl_z10:Array (Option Value)}{oc_z10 kV_z10 dc_z10 pm_z10 jkx ct_z10:Value}
  {f_z34:Addr}{od_z34 an_z34:Option Addr}{sl_z34:Array (Option Value)}{oc_z34 kV_z34 dc_z34 pm_z34 jll ct_z34:Value}
  {f_z4:Addr}{od_z4 an_z4:Option Addr}{sl_z4:Array (Option Value)}{oc_z4 kV_z4 dc_z4 pm_z4 cd_z4 ct_z4:Value}
  {f_z29:Addr}{od_z29 an_z29:Option Addr}{sl_z29:Array (Option Value)}{oc_z29 kV_z29 dc_z29 pm_z29 jlg ct_z29:Value}
  {f_z16:Addr}{od_z16 an_z16:Option Addr}{sl_z16:Array (Option Value)}{oc_z16 kV_z16 dc_z16 pm_z16 jl3 ct_z16:Value}
  {f_z31:Addr}{od_z31 an_z31:Option Addr}{sl_z31:Array (Option Value)}{oc_z31 kV_z31 dc_z31 pm_z31 jli ct_z31:Value}
  {f_z32:Addr}{od_z32 an_z32:Option Addr}{sl_z32:Array (Option Value)}{oc_z32 kV_z32 dc_z32 pm_z32 jlj ct_z32:Value}
  {c_World:Addr}
  {c_Rule:Addr}
  {c_Bound:Addr}
  {c_Store:Addr}
  {c_Keeper:Addr}
  {v_NAMES:Addr}{vd_NAMES:Option Addr}{vn_NAMES:Nat}{vs_NAMES:Array (Option Value)}{vt_NAMES_0 vt_NAMES_1 vt_NAMES_2 vt_NAMES_3 vt_NAMES_4 vt_NAMES_5 vt_NAMES_6 vt_NAMES_7 vt_NAMES_8:Tok}
  {t_MOST_STATES:Tok}
  (aC_World:PySem.W.nsIn K mainGlobals "World"=some (some (.ref c_World)))
  (aC_Rule:PySem.W.nsIn K mainGlobals "Rule"=some (some (.ref c_Rule)))
  (aC_Bound:PySem.W.nsIn K mainGlobals "Bound"=some (some (.ref c_Bound)))
  (aC_Store:PySem.W.nsIn K mainGlobals "Store"=some (some (.ref c_Store)))
  (aC_Keeper:PySem.W.nsIn K mainGlobals "Keeper"=some (some (.ref c_Keeper)))
  (a_z36:PySem.W.nsIn K mainGlobals "law"=some (some (.ref f_z36)))
  (l_z36:K.lookup f_z36=some ⟨oc_z36,od_z36,.func (PySem.W.fnOf "law" "law" (j0a s_z36) (j09 s_z36) (j01 s_z36) (.none) kV_z36 dc_z36 pm_z36 an_z36 jlm ct_z36),sl_z36⟩)
  (k_z36:PySem.W.codeIn K jlm "law"=true)
  (p_z36:PySem.W.keepIn K (.ref f_z36)=true)
  (a_z22:PySem.W.nsIn K mainGlobals "_law_twice"=some (some (.ref f_z22)))
  (l_z22:K.lookup f_z22=some ⟨oc_z22,od_z22,.func (PySem.W.fnOf "_law_twice" "_law_twice" (j0a s_z22) (j09 s_z22) (j01 s_z22) (.none) kV_z22 dc_z22 pm_z22 an_z22 jl9 ct_z22),sl_z22⟩)
  (k_z22:PySem.W.codeIn K jl9 "_law_twice"=true)
  (p_z22:PySem.W.keepIn K (.ref f_z22)=true)
  (a_z30:PySem.W.nsIn K mainGlobals "_law_bad"=some (some (.ref f_z30)))
  (l_z30:K.lookup f_z30=some ⟨oc_z30,od_z30,.func (PySem.W.fnOf "_law_bad" "_law_bad" (j0a s_z30) (j09 s_z30) (j01 s_z30) (.none) kV_z30 dc_z30 pm_z30 an_z30 jlh ct_z30),sl_z30⟩)
  (k_z30:PySem.W.codeIn K jlh "_law_bad"=true)
  (p_z30:PySem.W.keepIn K (.ref f_z30)=true)
  (a_z26:PySem.W.nsIn K mainGlobals "_law_plan"=some (some (.ref f_z26)))
  (l_z26:K.lookup f_z26=some ⟨oc_z26,od_z26,.func (PySem.W.fnOf "_law_plan" "_law_plan" (j0a s_z26) (j09 s_z26) (j01 s_z26) (.none) kV_z26 dc_z26 pm_z26 an_z26 jld ct_z26),sl_z26⟩)
  (k_z26:PySem.W.codeIn K jld "_law_plan"=true)
  (p_z26:PySem.W.keepIn K (.ref f_z26)=true)
  (a_z27:PySem.W.nsIn K mainGlobals "_law_same"=some (some (.ref f_z27)))
  (l_z27:K.lookup f_z27=some ⟨oc_z27,od_z27,.func (PySem.W.fnOf "_law_same" "_law_same" (j0a s_z27) (j09 s_z27) (j01 s_z27) (.none) kV_z27 dc_z27 pm_z27 an_z27 jle ct_z27),sl_z27⟩)
  (k_z27:PySem.W.codeIn K jle "_law_same"=true)
  (p_z27:PySem.W.keepIn K (.ref f_z27)=true)
  (a_z23:PySem.W.nsIn K mainGlobals "_law_whole"=some (some (.ref f_z23)))
  (l_z23:K.lookup f_z23=some ⟨oc_z23,od_z23,.func (PySem.W.fnOf "_law_whole" "_law_whole" (j0a s_z23) (j09 s_z23) (j01 s_z23) (.none) kV_z23 dc_z23 pm_z23 an_z23 jla ct_z23),sl_z23⟩)
  (k_z23:PySem.W.codeIn K jla "_law_whole"=true)
  (p_z23:PySem.W.keepIn K (.ref f_z23)=true)
  (a_z19:PySem.W.findIn K (.ref c_Rule) "paid"=some (some (.ref f_z19)))
  (l_z19:K.lookup f_z19=some ⟨oc_z19,od_z19,.func (PySem.W.fnOf "paid" "Rule.paid" (j0a s_z19) (j09 s_z19) (j01 s_z19) (.none) kV_z19 dc_z19 pm_z19 an_z19 jl6 ct_z19),sl_z19⟩)
  (k_z19:PySem.W.codeIn K jl6 "Rule.paid"=true)
  (p_z19:PySem.W.keepIn K (.ref f_z19)=true)
  (a_z25:PySem.W.nsIn K mainGlobals "_law_paid"=some (some (.ref f_z25)))
  (l_z25:K.lookup f_z25=some ⟨oc_z25,od_z25,.func (PySem.W.fnOf "_law_paid" "_law_paid" (j0a s_z25) (j09 s_z25) (j01 s_z25) (.none) kV_z25 dc_z25 pm_z25 an_z25 jlc ct_z25),sl_z25⟩)
  (k_z25:PySem.W.codeIn K jlc "_law_paid"=true)
  (p_z25:PySem.W.keepIn K (.ref f_z25)=true)
  (a_z24:PySem.W.findIn K (.ref c_Rule) "pay"=some (some (.ref f_z24)))
  (l_z24:K.lookup f_z24=some ⟨oc_z24,od_z24,.func (PySem.W.fnOf "pay" "Rule.pay" (j0a s_z24) (j09 s_z24) (j01 s_z24) (.none) kV_z24 dc_z24 pm_z24 an_z24 jlb ct_z24),sl_z24⟩)
  (k_z24:PySem.W.codeIn K jlb "Rule.pay"=true)
  (p_z24:PySem.W.keepIn K (.ref f_z24)=true)
  (a_z9:PySem.W.findIn K (.ref c_Keeper) "learn"=some (some (.ref f_z9)))
  (l_z9:K.lookup f_z9=some ⟨oc_z9,od_z9,.func (PySem.W.fnOf "learn" "Keeper.learn" (j0a s_z9) (j09 s_z9) (j01 s_z9) (.none) kV_z9 dc_z9 pm_z9 an_z9 cd_z9 ct_z9),sl_z9⟩)
  (k_z9:PySem.W.codeIn K cd_z9 "Keeper.learn"=true)
  (p_z9:PySem.W.keepIn K (.ref f_z9)=true)
  (a_z0:PySem.W.findIn K (.ref c_Keeper) "row_behind"=some (some (.ref f_z0)))
  (l_z0:K.lookup f_z0=some ⟨oc_z0,od_z0,.func (PySem.W.fnOf "row_behind" "Keeper.row_behind" (j0a s_z0) (j09 s_z0) (j01 s_z0) (.none) kV_z0 dc_z0 pm_z0 an_z0 cd_z0 ct_z0),sl_z0⟩)
  (k_z0:PySem.W.codeIn K cd_z0 "Keeper.row_behind"=true)
  (p_z0:PySem.W.keepIn K (.ref f_z0)=true)
  (a_z6:PySem.W.findIn K (.ref c_Rule) "price_to"=some (some (.ref f_z6)))
  (l_z6:K.lookup f_z6=some ⟨oc_z6,od_z6,.func (PySem.W.fnOf "price_to" "Rule.price_to" (j0a s_z6) (j09 s_z6) (j01 s_z6) (.none) kV_z6 dc_z6 pm_z6 an_z6 cd_z6 ct_z6),sl_z6⟩)
  (k_z6:PySem.W.codeIn K cd_z6 "Rule.price_to"=true)
  (p_z6:PySem.W.keepIn K (.ref f_z6)=true)
  (a_z13:PySem.W.findIn K (.ref c_Store) "price"=some (some (.ref f_z13)))
  (l_z13:K.lookup f_z13=some ⟨oc_z13,od_z13,.func (PySem.W.fnOf "price" "Store.price" (j0a s_z13) (j09 s_z13) (j01 s_z13) (.none) kV_z13 dc_z13 pm_z13 an_z13 jl0 ct_z13),sl_z13⟩)
  (k_z13:PySem.W.codeIn K jl0 "Store.price"=true)
  (p_z13:PySem.W.keepIn K (.ref f_z13)=true)
  (a_z5:PySem.W.findIn K (.ref c_Keeper) "target"=some (some (.ref f_z5)))
  (l_z5:K.lookup f_z5=some ⟨oc_z5,od_z5,.func (PySem.W.fnOf "target" "Keeper.target" (j0a s_z5) (j09 s_z5) (j01 s_z5) (.none) kV_z5 dc_z5 pm_z5 an_z5 cd_z5 ct_z5),sl_z5⟩)
  (k_z5:PySem.W.codeIn K cd_z5 "Keeper.target"=true)
  (p_z5:PySem.W.keepIn K (.ref f_z5)=true)
  (a_z7:PySem.W.findIn K (.ref c_Store) "is_wish"=some (some (.ref f_z7)))
  (l_z7:K.lookup f_z7=some ⟨oc_z7,od_z7,.func (PySem.W.fnOf "is_wish" "Store.is_wish" (j0a s_z7) (j09 s_z7) (j01 s_z7) (.none) kV_z7 dc_z7 pm_z7 an_z7 cd_z7 ct_z7),sl_z7⟩)
  (k_z7:PySem.W.codeIn K cd_z7 "Store.is_wish"=true)
  (p_z7:PySem.W.keepIn K (.ref f_z7)=true)
  (a_z28:PySem.W.nsIn K mainGlobals "is_name"=some (some (.ref f_z28)))
  (l_z28:K.lookup f_z28=some ⟨oc_z28,od_z28,.func (PySem.W.fnOf "is_name" "is_name" (j0a s_z28) (j09 s_z28) (j01 s_z28) (.none) kV_z28 dc_z28 pm_z28 an_z28 jlf ct_z28),sl_z28⟩)
  (k_z28:PySem.W.codeIn K jlf "is_name"=true)
  (p_z28:PySem.W.keepIn K (.ref f_z28)=true)
  (a_z11:PySem.W.findIn K (.ref c_Keeper) "__init__"=some (some (.ref f_z11)))
  (l_z11:K.lookup f_z11=some ⟨oc_z11,od_z11,.func (PySem.W.fnOf "__init__" "Keeper.__init__" (j0a s_z11) (j09 s_z11) (j01 s_z11) (.none) kV_z11 dc_z11 pm_z11 an_z11 jky ct_z11),sl_z11⟩)
  (k_z11:PySem.W.codeIn K jky "Keeper.__init__"=true)
  (p_z11:PySem.W.keepIn K (.ref f_z11)=true)
  (a_z18:PySem.W.findIn K (.ref c_Rule) "__init__"=some (some (.ref f_z18)))
  (l_z18:K.lookup f_z18=some ⟨oc_z18,od_z18,.func (PySem.W.fnOf "__init__" "Rule.__init__" (j0a s_z18) (j09 s_z18) (j01 s_z18) (.none) kV_z18 dc_z18 pm_z18 an_z18 jl5 ct_z18),sl_z18⟩)
  (k_z18:PySem.W.codeIn K jl5 "Rule.__init__"=true)
  (p_z18:PySem.W.keepIn K (.ref f_z18)=true)
  (a_z3:PySem.W.findIn K (.ref c_Store) "is_state"=some (some (.ref f_z3)))
  (l_z3:K.lookup f_z3=some ⟨oc_z3,od_z3,.func (PySem.W.fnOf "is_state" "Store.is_state" (j0a s_z3) (j09 s_z3) (j01 s_z3) (.none) kV_z3 dc_z3 pm_z3 an_z3 cd_z3 ct_z3),sl_z3⟩)
  (k_z3:PySem.W.codeIn K cd_z3 "Store.is_state"=true)
  (p_z3:PySem.W.keepIn K (.ref f_z3)=true)
  (a_z20:PySem.W.nsIn K mainGlobals "are_names"=some (some (.ref f_z20)))
  (l_z20:K.lookup f_z20=some ⟨oc_z20,od_z20,.func (PySem.W.fnOf "are_names" "are_names" (j0a s_z20) (j09 s_z20) (j01 s_z20) (.none) kV_z20 dc_z20 pm_z20 an_z20 jl7 ct_z20),sl_z20⟩)
  (k_z20:PySem.W.codeIn K jl7 "are_names"=true)
  (p_z20:PySem.W.keepIn K (.ref f_z20)=true)
  (a_z17:PySem.W.findIn K (.ref c_Store) "__init__"=some (some (.ref f_z17)))
  (l_z17:K.lookup f_z17=some ⟨oc_z17,od_z17,.func (PySem.W.fnOf "__init__" "Store.__init__" (j0a s_z17) (j09 s_z17) (j01 s_z17) (.none) kV_z17 dc_z17 pm_z17 an_z17 jl4 ct_z17),sl_z17⟩)
  (k_z17:PySem.W.codeIn K jl4 "Store.__init__"=true)
  (p_z17:PySem.W.keepIn K (.ref f_z17)=true)
  (a_z2:PySem.W.nsIn K mainGlobals "is_row_of_names"=some (some (.ref f_z2)))
  (l_z2:K.lookup f_z2=some ⟨oc_z2,od_z2,.func (PySem.W.fnOf "is_row_of_names" "is_row_of_names" (j0a s_z2) (j09 s_z2) (j01 s_z2) (.none) kV_z2 dc_z2 pm_z2 an_z2 cd_z2 ct_z2),sl_z2⟩)
  (k_z2:PySem.W.codeIn K cd_z2 "is_row_of_names"=true)
  (p_z2:PySem.W.keepIn K (.ref f_z2)=true)
  (a_z21:PySem.W.nsIn K mainGlobals "_law_shape"=some (some (.ref f_z21)))
  (l_z21:K.lookup f_z21=some ⟨oc_z21,od_z21,.func (PySem.W.fnOf "_law_shape" "_law_shape" (j0a s_z21) (j09 s_z21) (j01 s_z21) (.none) kV_z21 dc_z21 pm_z21 an_z21 jl8 ct_z21),sl_z21⟩)
  (k_z21:PySem.W.codeIn K jl8 "_law_shape"=true)
  (p_z21:PySem.W.keepIn K (.ref f_z21)=true)
  (a_z8:PySem.W.nsIn K mainGlobals "_law_are_names"=some (some (.ref f_z8)))
  (l_z8:K.lookup f_z8=some ⟨oc_z8,od_z8,.func (PySem.W.fnOf "_law_are_names" "_law_are_names" (j0a s_z8) (j09 s_z8) (j01 s_z8) (.none) kV_z8 dc_z8 pm_z8 an_z8 cd_z8 ct_z8),sl_z8⟩)
  (k_z8:PySem.W.codeIn K cd_z8 "_law_are_names"=true)
  (p_z8:PySem.W.keepIn K (.ref f_z8)=true)
  (a_z14:PySem.W.nsIn K mainGlobals "_law_is_name"=some (some (.ref f_z14)))
  (l_z14:K.lookup f_z14=some ⟨oc_z14,od_z14,.func (PySem.W.fnOf "_law_is_name" "_law_is_name" (j0a s_z14) (j09 s_z14) (j01 s_z14) (.none) kV_z14 dc_z14 pm_z14 an_z14 jl1 ct_z14),sl_z14⟩)
  (k_z14:PySem.W.codeIn K jl1 "_law_is_name"=true)
  (p_z14:PySem.W.keepIn K (.ref f_z14)=true)
  (a_z1:PySem.W.nsIn K mainGlobals "enemy_of_keeper"=some (some (.ref f_z1)))
  (l_z1:K.lookup f_z1=some ⟨oc_z1,od_z1,.func (PySem.W.fnOf "enemy_of_keeper" "enemy_of_keeper" (j0a s_z1) (j09 s_z1) (j01 s_z1) (.none) kV_z1 dc_z1 pm_z1 an_z1 (.ref ck_z1) ct_z1),sl_z1⟩)
  (lc_enemy_of_keeper:K.lookup ck_z1=some ⟨.type "code",cdd_enemy_of_keeper,.fields cvs_enemy_of_keeper,csl_enemy_of_keeper⟩)
  (pt_enemy_of_keeper:cvs_enemy_of_keeper[11]?=some (.ref tb_z1))
  (hd_enemy_of_keeper:PySem.W.codeHdIn K ck_z1 tb_z1=true)
  (tc_enemy_of_keeper:ts.contains tb_z1=true)
  (k_z1:PySem.W.codeIn K (.ref ck_z1) "enemy_of_keeper"=true)
  (p_z1:PySem.W.keepIn K (.ref f_z1)=true)
  (a_z35:PySem.W.nsIn K mainGlobals "best"=some (some (.ref f_z35)))
  (l_z35:K.lookup f_z35=some ⟨oc_z35,od_z35,.func (PySem.W.fnOf "best" "best" (j0a s_z35) (j09 s_z35) (j01 s_z35) (.none) kV_z35 dc_z35 pm_z35 an_z35 (.ref ck_z35) ct_z35),sl_z35⟩)
  (lc_best:K.lookup ck_z35=some ⟨.type "code",cdd_best,.fields cvs_best,csl_best⟩)
  (pt_best:cvs_best[11]?=some (.ref tb_z35))
  (hd_best:PySem.W.codeHdIn K ck_z35 tb_z35=true)
  (tc_best:ts.contains tb_z35=true)
  (k_z35:PySem.W.codeIn K (.ref ck_z35) "best"=true)
  (p_z35:PySem.W.keepIn K (.ref f_z35)=true)
  (a_z15:PySem.W.nsIn K mainGlobals "traced_rows"=some (some (.ref f_z15)))
  (l_z15:K.lookup f_z15=some ⟨oc_z15,od_z15,.func (PySem.W.fnOf "traced_rows" "traced_rows" (j0a s_z15) (j09 s_z15) (j01 s_z15) (.none) kV_z15 dc_z15 pm_z15 an_z15 jl2 ct_z15),sl_z15⟩)
  (k_z15:PySem.W.codeIn K jl2 "traced_rows"=true)
  (p_z15:PySem.W.keepIn K (.ref f_z15)=true)
  (a_z33:PySem.W.nsIn K mainGlobals "reached"=some (some (.ref f_z33)))
  (l_z33:K.lookup f_z33=some ⟨oc_z33,od_z33,.func (PySem.W.fnOf "reached" "reached" (j0a s_z33) (j09 s_z33) (j01 s_z33) (.none) kV_z33 dc_z33 pm_z33 an_z33 jlk ct_z33),sl_z33⟩)
  (k_z33:PySem.W.codeIn K jlk "reached"=true)
  (p_z33:PySem.W.keepIn K (.ref f_z33)=true)
  (a_z12:PySem.W.findIn K (.ref c_Store) "moves"=some (some (.ref f_z12)))
  (l_z12:K.lookup f_z12=some ⟨oc_z12,od_z12,.func (PySem.W.fnOf "moves" "Store.moves" (j0a s_z12) (j09 s_z12) (j01 s_z12) (.none) kV_z12 dc_z12 pm_z12 an_z12 jkz ct_z12),sl_z12⟩)
  (k_z12:PySem.W.codeIn K jkz "Store.moves"=true)
  (p_z12:PySem.W.keepIn K (.ref f_z12)=true)
  (a_z10:PySem.W.findIn K (.ref c_World) "priced"=some (some (.ref f_z10)))
  (l_z10:K.lookup f_z10=some ⟨oc_z10,od_z10,.func (PySem.W.fnOf "priced" "World.priced" (j0a s_z10) (j09 s_z10) (j01 s_z10) (.none) kV_z10 dc_z10 pm_z10 an_z10 jkx ct_z10),sl_z10⟩)
  (k_z10:PySem.W.codeIn K jkx "World.priced"=true)
  (p_z10:PySem.W.keepIn K (.ref f_z10)=true)
  (a_z34:PySem.W.nsIn K mainGlobals "swapped"=some (some (.ref f_z34)))
  (l_z34:K.lookup f_z34=some ⟨oc_z34,od_z34,.func (PySem.W.fnOf "swapped" "swapped" (j0a s_z34) (j09 s_z34) (j01 s_z34) (.none) kV_z34 dc_z34 pm_z34 an_z34 jll ct_z34),sl_z34⟩)
  (k_z34:PySem.W.codeIn K jll "swapped"=true)
  (p_z34:PySem.W.keepIn K (.ref f_z34)=true)
  (a_z4:PySem.W.nsIn K mainGlobals "wishes_against"=some (some (.ref f_z4)))
  (l_z4:K.lookup f_z4=some ⟨oc_z4,od_z4,.func (PySem.W.fnOf "wishes_against" "wishes_against" (j0a s_z4) (j09 s_z4) (j01 s_z4) (.none) kV_z4 dc_z4 pm_z4 an_z4 cd_z4 ct_z4),sl_z4⟩)
  (k_z4:PySem.W.codeIn K cd_z4 "wishes_against"=true)
  (p_z4:PySem.W.keepIn K (.ref f_z4)=true)
  (a_z29:PySem.W.nsIn K mainGlobals "lacking"=some (some (.ref f_z29)))
  (l_z29:K.lookup f_z29=some ⟨oc_z29,od_z29,.func (PySem.W.fnOf "lacking" "lacking" (j0a s_z29) (j09 s_z29) (j01 s_z29) (.none) kV_z29 dc_z29 pm_z29 an_z29 jlg ct_z29),sl_z29⟩)
  (k_z29:PySem.W.codeIn K jlg "lacking"=true)
  (p_z29:PySem.W.keepIn K (.ref f_z29)=true)
  (a_z16:PySem.W.findIn K (.ref c_Rule) "state"=some (some (.ref f_z16)))
  (l_z16:K.lookup f_z16=some ⟨oc_z16,od_z16,.func (PySem.W.fnOf "state" "Rule.state" (j0a s_z16) (j09 s_z16) (j01 s_z16) (.none) kV_z16 dc_z16 pm_z16 an_z16 jl3 ct_z16),sl_z16⟩)
  (k_z16:PySem.W.codeIn K jl3 "Rule.state"=true)
  (p_z16:PySem.W.keepIn K (.ref f_z16)=true)
  (a_z31:PySem.W.nsIn K mainGlobals "_law_mix"=some (some (.ref f_z31)))
  (l_z31:K.lookup f_z31=some ⟨oc_z31,od_z31,.func (PySem.W.fnOf "_law_mix" "_law_mix" (j0a s_z31) (j09 s_z31) (j01 s_z31) (.none) kV_z31 dc_z31 pm_z31 an_z31 jli ct_z31),sl_z31⟩)
  (k_z31:PySem.W.codeIn K jli "_law_mix"=true)
  (p_z31:PySem.W.keepIn K (.ref f_z31)=true)
  (a_z32:PySem.W.nsIn K mainGlobals "_law_raw"=some (some (.ref f_z32)))
  (l_z32:K.lookup f_z32=some ⟨oc_z32,od_z32,.func (PySem.W.fnOf "_law_raw" "_law_raw" (j0a s_z32) (j09 s_z32) (j01 s_z32) (.none) kV_z32 dc_z32 pm_z32 an_z32 jlj ct_z32),sl_z32⟩)
  (k_z32:PySem.W.codeIn K jlj "_law_raw"=true)
  (p_z32:PySem.W.keepIn K (.ref f_z32)=true)
  (ga_Bound_init:PySem.W.specialIn K (.ref c_Bound) "__getattribute__"=some (some (.builtin "type.__getattribute__")))
  (gr_Bound_init:PySem.W.readsIn K c_Bound (.type "type")=true)
  (gf_Bound_init:PySem.W.findCls K (.ref c_Bound) (.type "type") "__init__"=some (.val (.ref f_z18)))
  (cg_Store:PySem.W.plainGet K c_Store Str.empty=true)
  (ch_Store:PySem.W.hasDictIn K c_Store=true)
  (co_Store:PySem.W.plainOver K c_Store=true)
  (cs_Store:PySem.W.findIn K (.ref c_Store) "__setattr__"=some (some (.builtin "object.__setattr__")))
  (mm_Store:PySem.W.makesIn K c_Store=true)
  (mi_Store:PySem.W.findIn K (.ref c_Store) "__init__"=some (some (.ref f_z17)))
  (mf_Store:PySem.W.isFn K (.ref f_z17)=true)
  (mp_Store:PySem.W.keepIn K (.ref c_Store)=true)
  (na_Store_many:PySem.W.findIn K (.ref c_Store) "many"=some none)
  (ea_Store_is_state:PySem.W.findIn K (.ref c_Store) "is_state"=some (some (.ref f_z3)))
  (ef_Store_is_state:PySem.W.isFn K (.ref f_z3)=true)
  (ea_Store_is_wish:PySem.W.findIn K (.ref c_Store) "is_wish"=some (some (.ref f_z7)))
  (ef_Store_is_wish:PySem.W.isFn K (.ref f_z7)=true)
  (ea_Store_moves:PySem.W.findIn K (.ref c_Store) "moves"=some (some (.ref f_z12)))
  (ef_Store_moves:PySem.W.isFn K (.ref f_z12)=true)
  (ea_Store_price:PySem.W.findIn K (.ref c_Store) "price"=some (some (.ref f_z13)))
  (ef_Store_price:PySem.W.isFn K (.ref f_z13)=true)
  (ea_Store_priced:PySem.W.findIn K (.ref c_Store) "priced"=some (some (.ref f_z10)))
  (ef_Store_priced:PySem.W.isFn K (.ref f_z10)=true)
  (cg_Keeper:PySem.W.plainGet K c_Keeper Str.empty=true)
  (ch_Keeper:PySem.W.hasDictIn K c_Keeper=true)
  (co_Keeper:PySem.W.plainOver K c_Keeper=true)
  (cs_Keeper:PySem.W.findIn K (.ref c_Keeper) "__setattr__"=some (some (.builtin "object.__setattr__")))
  (mm_Keeper:PySem.W.makesIn K c_Keeper=true)
  (mi_Keeper:PySem.W.findIn K (.ref c_Keeper) "__init__"=some (some (.ref f_z11)))
  (mf_Keeper:PySem.W.isFn K (.ref f_z11)=true)
  (mp_Keeper:PySem.W.keepIn K (.ref c_Keeper)=true)
  (na_Keeper_row:PySem.W.findIn K (.ref c_Keeper) "row"=some none)
  (na_Keeper_spent:PySem.W.findIn K (.ref c_Keeper) "spent"=some none)
  (na_Keeper_standing:PySem.W.findIn K (.ref c_Keeper) "standing"=some none)
  (na_Keeper_world:PySem.W.findIn K (.ref c_Keeper) "world"=some none)
  (ea_Keeper_learn:PySem.W.findIn K (.ref c_Keeper) "learn"=some (some (.ref f_z9)))
  (ef_Keeper_learn:PySem.W.isFn K (.ref f_z9)=true)
  (ea_Keeper_paid:PySem.W.findIn K (.ref c_Keeper) "paid"=some (some (.ref f_z19)))
  (ef_Keeper_paid:PySem.W.isFn K (.ref f_z19)=true)
  (ea_Keeper_pay:PySem.W.findIn K (.ref c_Keeper) "pay"=some (some (.ref f_z24)))
  (ef_Keeper_pay:PySem.W.isFn K (.ref f_z24)=true)
  (ea_Keeper_price_to:PySem.W.findIn K (.ref c_Keeper) "price_to"=some (some (.ref f_z6)))
  (ef_Keeper_price_to:PySem.W.isFn K (.ref f_z6)=true)
  (ea_Keeper_row_behind:PySem.W.findIn K (.ref c_Keeper) "row_behind"=some (some (.ref f_z0)))
  (ef_Keeper_row_behind:PySem.W.isFn K (.ref f_z0)=true)
  (ea_Keeper_state:PySem.W.findIn K (.ref c_Keeper) "state"=some (some (.ref f_z16)))
  (ef_Keeper_state:PySem.W.isFn K (.ref f_z16)=true)
  (ea_Keeper_target:PySem.W.findIn K (.ref c_Keeper) "target"=some (some (.ref f_z5)))
  (ef_Keeper_target:PySem.W.isFn K (.ref f_z5)=true)
  (z_all:PySem.W.nsIn K mainGlobals "all"=some none)
  (z_bool:PySem.W.nsIn K mainGlobals "bool"=some none)
  (z_int:PySem.W.nsIn K mainGlobals "int"=some none)
  (z_isinstance:PySem.W.nsIn K mainGlobals "isinstance"=some none)
  (z_len:PySem.W.nsIn K mainGlobals "len"=some none)
  (z_list:PySem.W.nsIn K mainGlobals "list"=some none)
  (z_max:PySem.W.nsIn K mainGlobals "max"=some none)
  (z_min:PySem.W.nsIn K mainGlobals "min"=some none)
  (z_range:PySem.W.nsIn K mainGlobals "range"=some none)
  (z_reversed:PySem.W.nsIn K mainGlobals "reversed"=some none)
  (z_set:PySem.W.nsIn K mainGlobals "set"=some none)
  (z_sorted:PySem.W.nsIn K mainGlobals "sorted"=some none)
  (z_str:PySem.W.nsIn K mainGlobals "str"=some none)
  (z_tuple:PySem.W.nsIn K mainGlobals "tuple"=some none)
  (z_zip:PySem.W.nsIn K mainGlobals "zip"=some none)
  (va_NAMES:PySem.W.nsIn K mainGlobals "NAMES"=some (some (.ref v_NAMES)))
  (vl_NAMES:K.lookup v_NAMES=some ⟨.type "tuple",vd_NAMES,.seq ([.str "a" vt_NAMES_0,.str "b" vt_NAMES_1,.str "c" vt_NAMES_2,.str "d" vt_NAMES_3,.str "e" vt_NAMES_4,.str "f" vt_NAMES_5,.str "g" vt_NAMES_6,.str "h" vt_NAMES_7,.str "i" vt_NAMES_8]:List Value).toArray vn_NAMES,vs_NAMES⟩)
  (zk_MOST_STATES:PySem.W.nsIn K mainGlobals "MOST_STATES"=some (some (.int 60 t_MOST_STATES)))
  (nt:PySem.W.noTabs K=true)
  (ntb:tb_z35≠tb_z1) :
  ∃ (fd:FuncData) (cps:List (Addr × Addr)) (sp:Sp),PySem.W.noTabs K=true∧(∀ q∈cps,PySem.W.codeHdIn K q.1 q.2=true∧ts.contains q.2=true)∧(∀ (s:Shared) (v:Value),BindsTo s fd ⟨[v],[]⟩ [("_law_script",v)])∧(∀ (H:Hp) (a:Addr) (ns:List Int),ns.length≤63→(∀ z∈ns,ib z≤1048576)→(∀ q∈cps,H q.2=some (.tbl #[]))→SqL K H a (ns.map V.int)→sp [.ref a] H (fun v _=>v=.bl true) fun _ _ _=>False)∧∀ base:Heap,K.In base→base.Ns mainGlobals mg→FnOk l.prog w K mg base (CXU l.prog w) 10 fa fd ["_law_script"] sp:=by
 have e:=hfa.symm.trans (PySem.W.mg_of X G a_z36)
 cases e
 have F_z36:=j0i (st:=s_z36) l_z36 k_z36 p_z36
 have F_z22:=j0i (st:=s_z22) l_z22 k_z22 p_z22
 have F_z30:=j0i (st:=s_z30) l_z30 k_z30 p_z30
 have F_z26:=j0i (st:=s_z26) l_z26 k_z26 p_z26
 have F_z27:=j0i (st:=s_z27) l_z27 k_z27 p_z27
 have F_z23:=j0i (st:=s_z23) l_z23 k_z23 p_z23
 have F_z19:=j0i (st:=s_z19) l_z19 k_z19 p_z19
 have F_z25:=j0i (st:=s_z25) l_z25 k_z25 p_z25
 have F_z24:=j0i (st:=s_z24) l_z24 k_z24 p_z24
 have F_z9:=j0i (st:=s_z9) l_z9 k_z9 p_z9
 have F_z0:=j0i (st:=s_z0) l_z0 k_z0 p_z0
 have F_z6:=j0i (st:=s_z6) l_z6 k_z6 p_z6
 have F_z13:=j0i (st:=s_z13) l_z13 k_z13 p_z13
 have F_z5:=j0i (st:=s_z5) l_z5 k_z5 p_z5
 have F_z7:=j0i (st:=s_z7) l_z7 k_z7 p_z7
 have F_z28:=j0i (st:=s_z28) l_z28 k_z28 p_z28
 have F_z11:=j0i (st:=s_z11) l_z11 k_z11 p_z11
 have F_z18:=j0i (st:=s_z18) l_z18 k_z18 p_z18
 have F_z3:=j0i (st:=s_z3) l_z3 k_z3 p_z3
 have F_z20:=j0i (st:=s_z20) l_z20 k_z20 p_z20
 have F_z17:=j0i (st:=s_z17) l_z17 k_z17 p_z17
 have F_z2:=j0i (st:=s_z2) l_z2 k_z2 p_z2
 have F_z21:=j0i (st:=s_z21) l_z21 k_z21 p_z21
 have F_z8:=j0i (st:=s_z8) l_z8 k_z8 p_z8
 have F_z14:=j0i (st:=s_z14) l_z14 k_z14 p_z14
 have F_z1:=j0i (st:=s_z1) l_z1 k_z1 p_z1
 have F_z35:=j0i (st:=s_z35) l_z35 k_z35 p_z35
 have F_z15:=j0i (st:=s_z15) l_z15 k_z15 p_z15
 have F_z33:=j0i (st:=s_z33) l_z33 k_z33 p_z33
 have F_z12:=j0i (st:=s_z12) l_z12 k_z12 p_z12
 have F_z10:=j0i (st:=s_z10) l_z10 k_z10 p_z10
 have F_z34:=j0i (st:=s_z34) l_z34 k_z34 p_z34
 have F_z4:=j0i (st:=s_z4) l_z4 k_z4 p_z4
 have F_z29:=j0i (st:=s_z29) l_z29 k_z29 p_z29
 have F_z16:=j0i (st:=s_z16) l_z16 k_z16 p_z16
 have F_z31:=j0i (st:=s_z31) l_z31 k_z31 p_z31
 have F_z32:=j0i (st:=s_z32) l_z32 k_z32 p_z32
 have b_z36:=F_z36.binds (ps:=["_law_script"]) fun _ _ _ _ _ _ us hl=>match us,hl with | [_],_=>rfl
 have b_z22:=F_z22.binds (ps:=["_law_k","_law_many"]) fun _ _ _ _ _ _ us hl=>match us,hl with | [_,_],_=>rfl
 have b_z30:=F_z30.binds (ps:=["_law_found","_law_k","_law_many"]) fun _ _ _ _ _ _ us hl=>match us,hl with | [_,_,_],_=>rfl
 have b_z26:=F_z26.binds (ps:=["_law_start","_law_way"]) fun _ _ _ _ _ _ us hl=>match us,hl with | [_,_],_=>rfl
 have b_z27:=F_z27.binds (ps:=["_law_found","_law_due"]) fun _ _ _ _ _ _ us hl=>match us,hl with | [_,_],_=>rfl
 have b_z23:=F_z23.binds (ps:=["_law_found"]) fun _ _ _ _ _ _ us hl=>match us,hl with | [_],_=>rfl
 have b_z19:=F_z19.binds (ps:=["self"]) fun _ _ _ _ _ _ us hl=>match us,hl with | [_],_=>rfl
 have b_z25:=F_z25.binds (ps:=["_law_start","_law_wishes"]) fun _ _ _ _ _ _ us hl=>match us,hl with | [_,_],_=>rfl
 have b_z24:=F_z24.binds (ps:=["self","wish"]) fun _ _ _ _ _ _ us hl=>match us,hl with | [_,_],_=>rfl
 have b_z9:=F_z9.binds (ps:=["self","wish"]) fun _ _ _ _ _ _ us hl=>match us,hl with | [_,_],_=>rfl
 have b_z0:=F_z0.binds (ps:=["self","wish"]) fun _ _ _ _ _ _ us hl=>match us,hl with | [_,_],_=>rfl
 have b_z6:=F_z6.binds (ps:=["self","wish","after"]) fun _ _ _ _ _ _ us hl=>match us,hl with | [_,_,_],_=>rfl
 have b_z13:=F_z13.binds (ps:=["self","before","wish","after"]) fun _ _ _ _ _ _ us hl=>match us,hl with | [_,_,_,_],_=>rfl
 have b_z5:=F_z5.binds (ps:=["self","wish"]) fun _ _ _ _ _ _ us hl=>match us,hl with | [_,_],_=>rfl
 have b_z7:=F_z7.binds (ps:=["self","thing"]) fun _ _ _ _ _ _ us hl=>match us,hl with | [_,_],_=>rfl
 have b_z28:=F_z28.binds (ps:=["thing"]) fun _ _ _ _ _ _ us hl=>match us,hl with | [_],_=>rfl
 have b_z11:=F_z11.binds (ps:=["self","pages"]) fun _ _ _ _ _ _ us hl=>match us,hl with | [_,_],_=>rfl
 have b_z18:=F_z18.binds (ps:=["self","world","start"]) fun _ _ _ _ _ _ us hl=>match us,hl with | [_,_,_],_=>rfl
 have b_z3:=F_z3.binds (ps:=["self","thing"]) fun _ _ _ _ _ _ us hl=>match us,hl with | [_,_],_=>rfl
 have b_z20:=F_z20.binds (ps:=["thing"]) fun _ _ _ _ _ _ us hl=>match us,hl with | [_],_=>rfl
 have b_z17:=F_z17.binds (ps:=["self","many"]) fun _ _ _ _ _ _ us hl=>match us,hl with | [_,_],_=>rfl
 have b_z2:=F_z2.binds (ps:=["thing"]) fun _ _ _ _ _ _ us hl=>match us,hl with | [_],_=>rfl
 have b_z21:=F_z21.binds (ps:=["_law_found","_law_k","_law_many"]) fun _ _ _ _ _ _ us hl=>match us,hl with | [_,_,_],_=>rfl
 have b_z8:=F_z8.binds (ps:=["_law_thing","_law_many"]) fun _ _ _ _ _ _ us hl=>match us,hl with | [_,_],_=>rfl
 have b_z14:=F_z14.binds (ps:=["_law_thing"]) fun _ _ _ _ _ _ us hl=>match us,hl with | [_],_=>rfl
 have b_z1:=F_z1.binds (ps:=["k","many"]) fun _ _ _ _ _ _ us hl=>match us,hl with | [_,_],_=>rfl
 have b_z35:=F_z35.binds (ps:=["world","start","wishes"]) fun _ _ _ _ _ _ us hl=>match us,hl with | [_,_,_],_=>rfl
 have b_z15:=F_z15.binds (ps:=["world","start","wishes"]) fun _ _ _ _ _ _ us hl=>match us,hl with | [_,_,_],_=>rfl
 have b_z33:=F_z33.binds (ps:=["world","row","wish"]) fun _ _ _ _ _ _ us hl=>match us,hl with | [_,_,_],_=>rfl
 have b_z12:=F_z12.binds (ps:=["self","before","wish"]) fun _ _ _ _ _ _ us hl=>match us,hl with | [_,_,_],_=>rfl
 have b_z10:=F_z10.binds (ps:=["self","before","wish","states"]) fun _ _ _ _ _ _ us hl=>match us,hl with | [_,_,_,_],_=>rfl
 have b_z34:=F_z34.binds (ps:=["pages","gone","wish"]) fun _ _ _ _ _ _ us hl=>match us,hl with | [_,_,_],_=>rfl
 have b_z4:=F_z4.binds (ps:=["rule","many","worst"]) fun _ _ _ _ _ _ us hl=>match us,hl with | [_,_,_],_=>rfl
 have b_z29:=F_z29.binds (ps:=["things","had"]) fun _ _ _ _ _ _ us hl=>match us,hl with | [_,_],_=>rfl
 have b_z16:=F_z16.binds (ps:=["self"]) fun _ _ _ _ _ _ us hl=>match us,hl with | [_],_=>rfl
 have b_z31:=F_z31.binds (ps:=["_law_script","_law_k"]) fun _ _ _ _ _ _ us hl=>match us,hl with | [_,_],_=>rfl
 have b_z32:=F_z32.binds (ps:=["_law_script","_law_k"]) fun _ _ _ _ _ _ us hl=>match us,hl with | [_,_],_=>rfl
 have T:Txt K mg ⟨fa,_,f_z22,_,f_z30,_,f_z26,_,f_z27,_,f_z23,_,f_z19,_,f_z25,_,f_z24,_,f_z9,_,f_z0,_,f_z6,_,f_z13,_,f_z5,_,f_z7,_,f_z28,_,f_z11,_,f_z18,_,f_z3,_,f_z20,_,f_z17,_,f_z2,_,f_z21,_,f_z8,_,f_z14,_,f_z1,_,ck_z1,tb_z1,f_z35,_,ck_z35,tb_z35,f_z15,_,f_z33,_,f_z12,_,f_z10,_,f_z34,_,f_z4,_,f_z29,_,f_z16,_,f_z31,_,f_z32,_,c_World,c_Rule,c_Bound,c_Store,c_Keeper,_,v_NAMES⟩:=⟨F_z36,b_z36,PySem.W.mg_of X G a_z36,F_z22,b_z22,PySem.W.mg_of X G a_z22,F_z30,b_z30,PySem.W.mg_of X G a_z30,F_z26,b_z26,PySem.W.mg_of X G a_z26,F_z27,b_z27,PySem.W.mg_of X G a_z27,F_z23,b_z23,PySem.W.mg_of X G a_z23,F_z19,b_z19,F_z25,b_z25,PySem.W.mg_of X G a_z25,F_z24,b_z24,F_z9,b_z9,F_z0,b_z0,F_z6,b_z6,F_z13,b_z13,F_z5,b_z5,F_z7,b_z7,F_z28,b_z28,PySem.W.mg_of X G a_z28,F_z11,b_z11,F_z18,b_z18,F_z3,b_z3,F_z20,b_z20,PySem.W.mg_of X G a_z20,F_z17,b_z17,F_z2,b_z2,PySem.W.mg_of X G a_z2,F_z21,b_z21,PySem.W.mg_of X G a_z21,F_z8,b_z8,PySem.W.mg_of X G a_z8,F_z14,b_z14,PySem.W.mg_of X G a_z14,F_z1,b_z1,PySem.W.mg_of X G a_z1,rfl,hd_enemy_of_keeper,F_z35,b_z35,ntb,PySem.W.mg_of X G a_z35,rfl,hd_best,F_z15,b_z15,PySem.W.mg_of X G a_z15,F_z33,b_z33,PySem.W.mg_of X G a_z33,F_z12,b_z12,F_z10,b_z10,F_z34,b_z34,PySem.W.mg_of X G a_z34,F_z4,b_z4,PySem.W.mg_of X G a_z4,F_z29,b_z29,PySem.W.mg_of X G a_z29,F_z16,b_z16,F_z31,b_z31,PySem.W.mg_of X G a_z31,F_z32,b_z32,PySem.W.mg_of X G a_z32,PySem.W.mg_of X G aC_Bound,⟨ga_Bound_init,gr_Bound_init,gf_Bound_init,p_z18⟩,PySem.W.mg_of X G aC_Store,⟨cg_Store,ch_Store,co_Store,cs_Store⟩,⟨mm_Store,mi_Store,mf_Store,mp_Store⟩,na_Store_many,⟨ea_Store_is_state,ef_Store_is_state,p_z3⟩,⟨ea_Store_is_wish,ef_Store_is_wish,p_z7⟩,⟨ea_Store_moves,ef_Store_moves,p_z12⟩,⟨ea_Store_price,ef_Store_price,p_z13⟩,⟨ea_Store_priced,ef_Store_priced,p_z10⟩,PySem.W.mg_of X G aC_Keeper,⟨cg_Keeper,ch_Keeper,co_Keeper,cs_Keeper⟩,⟨mm_Keeper,mi_Keeper,mf_Keeper,mp_Keeper⟩,na_Keeper_row,na_Keeper_spent,na_Keeper_standing,na_Keeper_world,⟨ea_Keeper_learn,ef_Keeper_learn,p_z9⟩,⟨ea_Keeper_paid,ef_Keeper_paid,p_z19⟩,⟨ea_Keeper_pay,ef_Keeper_pay,p_z24⟩,⟨ea_Keeper_price_to,ef_Keeper_price_to,p_z6⟩,⟨ea_Keeper_row_behind,ef_Keeper_row_behind,p_z0⟩,⟨ea_Keeper_state,ef_Keeper_state,p_z16⟩,⟨ea_Keeper_target,ef_Keeper_target,p_z5⟩,PySem.W.mg_none_of X G z_all,PySem.W.mg_none_of X G z_bool,PySem.W.mg_none_of X G z_int,PySem.W.mg_none_of X G z_isinstance,PySem.W.mg_none_of X G z_len,PySem.W.mg_none_of X G z_list,PySem.W.mg_none_of X G z_max,PySem.W.mg_none_of X G z_min,PySem.W.mg_none_of X G z_range,PySem.W.mg_none_of X G z_reversed,PySem.W.mg_none_of X G z_set,PySem.W.mg_none_of X G z_sorted,PySem.W.mg_none_of X G z_str,PySem.W.mg_none_of X G z_tuple,PySem.W.mg_none_of X G z_zip,PySem.W.mg_of X G zk_MOST_STATES,PySem.W.mg_of X G va_NAMES,(fun H=>.inr ⟨_,_,_,vl_NAMES,rfl,rfl,(by show 9≤sizeLine;decide),.cons ⟨_,rfl⟩ (.cons ⟨_,rfl⟩ (.cons ⟨_,rfl⟩ (.cons ⟨_,rfl⟩ (.cons ⟨_,rfl⟩ (.cons ⟨_,rfl⟩ (.cons ⟨_,rfl⟩ (.cons ⟨_,rfl⟩ (.cons ⟨_,rfl⟩ (.nil)))))))))⟩)⟩
 exact⟨_,[(ck_z35,tb_z35),(ck_z1,tb_z1)],_,nt,fun q hq=>(List.mem_cons.mp hq).elim (fun h=>by rw[h];exact⟨hd_best,tc_best⟩) (fun h=>by rw[List.mem_singleton.mp h];exact⟨hd_enemy_of_keeper,tc_enemy_of_keeper⟩),fun s v=>.of_eq rfl,fun H p ns h1 h2 h3 h4=>⟨p,ns,rfl,h4,h1,h2,h3 _ (.head _),h3 _ (.tail _ (.head _)),fun _=>rfl⟩,fun base _ _=>ok_law T⟩
theorem walk {l:PySem.W.OpenLaw}{q:Program}{loose:List Str}{XP:(Str→Option Value)→Heap→Prop}{YP:World→Heap→Prop}{d:DefRec}{K:Params→PySem.W.Frag}{ts:List Addr} (hn:l.most=some 63) (hdf:d.params.defaults=[])
  (hY:∀ (w:World) (h:Heap),YP w h→(K w.params).In h) (hY2:∀ (w:World) (h:Heap),YP w h→∀ P∈ts,h.get? P=some (PySem.W.tabObj #[]))
  (F:∀ (w:World) (mg:Str→Option Value) (fa:Addr) (h:Heap),(K w.params).In h→h.Ns mainGlobals mg→mg d.name=some (.ref fa) →
   ∃ (fd:FuncData) (cps:List (Addr × Addr)) (sp:Sp),PySem.W.noTabs (K w.params)=true∧(∀ q∈cps,PySem.W.codeHdIn (K w.params) q.1 q.2=true∧ts.contains q.2=true)∧(∀ (s:Shared) (u:Value),BindsTo s fd ⟨[u],[]⟩ [("_law_script",u)]) ∧
    (∀ (H:Hp) (a:Addr) (ns:List Int),ns.length≤63→(∀ z∈ns,ib z≤1048576)→(∀ q∈cps,H q.2=some (.tbl #[]))→SqL (K w.params) H a (ns.map V.int)→sp [.ref a] H (fun v _=>v=.bl true) fun _ _ _=>False) ∧
    ∀ base:Heap,(K w.params).In base→base.Ns mainGlobals mg→FnOk l.prog w (K w.params) mg base (CXU l.prog w) 10 fa fd ["_law_script"] sp) :
  PySem.W.WalkO q loose XP YP l.row.toRowW d [] (fun f vs=>PySem.call f vs) :=
 L2.walk_ofT (n:=63) (k:=10) (x:="_law_script") (CX:=fun w=>CXU l.prog w) hn (by decide) hdf ⟨rfl,by decide,by decide,rfl⟩ hY hY2 F noneU
end Q
namespace PySem.W.Fast
def tw61209831397059393:Unit:=()
def tw5185736670449638153:Unit:=()
def tw8987006130053999055:Unit:=()
def tw15706410817728100378:Unit:=()
def tw7712914710065976093:Unit:=()
def tw4017661868618121292:Unit:=()
def tw4766512875257271237:Unit:=()
def tw9490736221198389858:Unit:=()
def tw7158965414035441014:Unit:=()
def tw13593148338489868988:Unit:=()
def tw15523049921609928250:Unit:=()
def tw5628474983328425810:Unit:=()
end PySem.W.Fast
open PySem PySem.W PyProof.Rows
set_option maxRecDepth 100000 in
set_option maxHeartbeats 0 in
theorem PySem.Challenge.cw_lateknow_k75_enemy_of_keeper_holds : PySem.Challenge.rw_lateknow_k75_enemy_of_keeper.Holds := by
 w_on;o_law;k_head;(case hw=>w_witness2)
 k_fill
 refine Q.walk (l:=PySem.Challenge.rw_lateknow_k75_enemy_of_keeper) rfl rfl (fun w h Y=>PySem.W.km_in_of Y) (fun w h Y=>PySem.W.km_tabs_of Y) ?F
 case F =>
  intro w mg fa h KX G hmg
  refine' Q.all_mk KX G hmg ?aC_World ?aC_Rule ?aC_Bound ?aC_Store ?aC_Keeper ?a_z36 ?l_z36 ?k_z36 ?p_z36 ?a_z22 ?l_z22 ?k_z22 ?p_z22 ?a_z30 ?l_z30 ?k_z30 ?p_z30 ?a_z26 ?l_z26 ?k_z26 ?p_z26 ?a_z27 ?l_z27 ?k_z27 ?p_z27 ?a_z23 ?l_z23 ?k_z23 ?p_z23 ?a_z19 ?l_z19 ?k_z19 ?p_z19 ?a_z25 ?l_z25 ?k_z25 ?p_z25 ?a_z24 ?l_z24 ?k_z24 ?p_z24 ?a_z9 ?l_z9 ?k_z9 ?p_z9 ?a_z0 ?l_z0 ?k_z0 ?p_z0 ?a_z6 ?l_z6 ?k_z6 ?p_z6 ?a_z13 ?l_z13 ?k_z13 ?p_z13 ?a_z5 ?l_z5 ?k_z5 ?p_z5 ?a_z7 ?l_z7 ?k_z7 ?p_z7 ?a_z28 ?l_z28 ?k_z28 ?p_z28 ?a_z11 ?l_z11 ?k_z11 ?p_z11 ?a_z18 ?l_z18 ?k_z18 ?p_z18 ?a_z3 ?l_z3 ?k_z3 ?p_z3 ?a_z20 ?l_z20 ?k_z20 ?p_z20 ?a_z17 ?l_z17 ?k_z17 ?p_z17 ?a_z2 ?l_z2 ?k_z2 ?p_z2 ?a_z21 ?l_z21 ?k_z21 ?p_z21 ?a_z8 ?l_z8 ?k_z8 ?p_z8 ?a_z14 ?l_z14 ?k_z14 ?p_z14 ?a_z1 ?l_z1 ?lc_enemy_of_keeper ?pt_enemy_of_keeper ?hd_enemy_of_keeper ?tc_enemy_of_keeper ?k_z1 ?p_z1 ?a_z35 ?l_z35 ?lc_best ?pt_best ?hd_best ?tc_best ?k_z35 ?p_z35 ?a_z15 ?l_z15 ?k_z15 ?p_z15 ?a_z33 ?l_z33 ?k_z33 ?p_z33 ?a_z12 ?l_z12 ?k_z12 ?p_z12 ?a_z10 ?l_z10 ?k_z10 ?p_z10 ?a_z34 ?l_z34 ?k_z34 ?p_z34 ?a_z4 ?l_z4 ?k_z4 ?p_z4 ?a_z29 ?l_z29 ?k_z29 ?p_z29 ?a_z16 ?l_z16 ?k_z16 ?p_z16 ?a_z31 ?l_z31 ?k_z31 ?p_z31 ?a_z32 ?l_z32 ?k_z32 ?p_z32 ?ga_Bound_init ?gr_Bound_init ?gf_Bound_init ?cg_Store ?ch_Store ?co_Store ?cs_Store ?mm_Store ?mi_Store ?mf_Store ?mp_Store ?na_Store_many ?ea_Store_is_state ?ef_Store_is_state ?ea_Store_is_wish ?ef_Store_is_wish ?ea_Store_moves ?ef_Store_moves ?ea_Store_price ?ef_Store_price ?ea_Store_priced ?ef_Store_priced ?cg_Keeper ?ch_Keeper ?co_Keeper ?cs_Keeper ?mm_Keeper ?mi_Keeper ?mf_Keeper ?mp_Keeper ?na_Keeper_row ?na_Keeper_spent ?na_Keeper_standing ?na_Keeper_world ?ea_Keeper_learn ?ef_Keeper_learn ?ea_Keeper_paid ?ef_Keeper_paid ?ea_Keeper_pay ?ef_Keeper_pay ?ea_Keeper_price_to ?ef_Keeper_price_to ?ea_Keeper_row_behind ?ef_Keeper_row_behind ?ea_Keeper_state ?ef_Keeper_state ?ea_Keeper_target ?ef_Keeper_target ?z_all ?z_bool ?z_int ?z_isinstance ?z_len ?z_list ?z_max ?z_min ?z_range ?z_reversed ?z_set ?z_sorted ?z_str ?z_tuple ?z_zip ?va_NAMES ?vl_NAMES ?zk_MOST_STATES ?nt ?ntb
  (case aC_World=>k_is)
  (case aC_Rule=>k_is)
  (case aC_Bound=>k_is)
  (case aC_Store=>k_is)
  (case aC_Keeper=>k_is)
  (case a_z36=>k_is)
  (case l_z36=>k_is)
  (case k_z36=>k_is)
  (case p_z36=>k_is)
  (case a_z22=>k_is)
  (case l_z22=>k_is)
  (case k_z22=>k_is)
  (case p_z22=>k_is)
  (case a_z30=>k_is)
  (case l_z30=>k_is)
  (case k_z30=>k_is)
  (case p_z30=>k_is)
  (case a_z26=>k_is)
  (case l_z26=>k_is)
  (case k_z26=>k_is)
  (case p_z26=>k_is)
  (case a_z27=>k_is)
  (case l_z27=>k_is)
  (case k_z27=>k_is)
  (case p_z27=>k_is)
  (case a_z23=>k_is)
  (case l_z23=>k_is)
  (case k_z23=>k_is)
  (case p_z23=>k_is)
  (case a_z19=>k_is)
  (case l_z19=>k_is)
  (case k_z19=>k_is)
  (case p_z19=>k_is)
  (case a_z25=>k_is)
  (case l_z25=>k_is)
  (case k_z25=>k_is)
  (case p_z25=>k_is)
  (case a_z24=>k_is)
  (case l_z24=>k_is)
  (case k_z24=>k_is)
  (case p_z24=>k_is)
  (case a_z9=>k_is)
  (case l_z9=>k_is)
  (case k_z9=>k_is)
  (case p_z9=>k_is)
  (case a_z0=>k_is)
  (case l_z0=>k_is)
  (case k_z0=>k_is)
  (case p_z0=>k_is)
  (case a_z6=>k_is)
  (case l_z6=>k_is)
  (case k_z6=>k_is)
  (case p_z6=>k_is)
  (case a_z13=>k_is)
  (case l_z13=>k_is)
  (case k_z13=>k_is)
  (case p_z13=>k_is)
  (case a_z5=>k_is)
  (case l_z5=>k_is)
  (case k_z5=>k_is)
  (case p_z5=>k_is)
  (case a_z7=>k_is)
  (case l_z7=>k_is)
  (case k_z7=>k_is)
  (case p_z7=>k_is)
  (case a_z28=>k_is)
  (case l_z28=>k_is)
  (case k_z28=>k_is)
  (case p_z28=>k_is)
  (case a_z11=>k_is)
  (case l_z11=>k_is)
  (case k_z11=>k_is)
  (case p_z11=>k_is)
  (case a_z18=>k_is)
  (case l_z18=>k_is)
  (case k_z18=>k_is)
  (case p_z18=>k_is)
  (case a_z3=>k_is)
  (case l_z3=>k_is)
  (case k_z3=>k_is)
  (case p_z3=>k_is)
  (case a_z20=>k_is)
  (case l_z20=>k_is)
  (case k_z20=>k_is)
  (case p_z20=>k_is)
  (case a_z17=>k_is)
  (case l_z17=>k_is)
  (case k_z17=>k_is)
  (case p_z17=>k_is)
  (case a_z2=>k_is)
  (case l_z2=>k_is)
  (case k_z2=>k_is)
  (case p_z2=>k_is)
  (case a_z21=>k_is)
  (case l_z21=>k_is)
  (case k_z21=>k_is)
  (case p_z21=>k_is)
  (case a_z8=>k_is)
  (case l_z8=>k_is)
  (case k_z8=>k_is)
  (case p_z8=>k_is)
  (case a_z14=>k_is)
  (case l_z14=>k_is)
  (case k_z14=>k_is)
  (case p_z14=>k_is)
  (case a_z1=>k_is)
  (case l_z1=>k_is)
  (case lc_enemy_of_keeper=>k_is)
  (case pt_enemy_of_keeper=>exact rfl)
  (case hd_enemy_of_keeper=>kernel_rfl)
  (case tc_enemy_of_keeper=>exact rfl)
  (case k_z1=>k_is)
  (case p_z1=>k_is)
  (case a_z35=>k_is)
  (case l_z35=>k_is)
  (case lc_best=>k_is)
  (case pt_best=>exact rfl)
  (case hd_best=>kernel_rfl)
  (case tc_best=>exact rfl)
  (case k_z35=>k_is)
  (case p_z35=>k_is)
  (case a_z15=>k_is)
  (case l_z15=>k_is)
  (case k_z15=>k_is)
  (case p_z15=>k_is)
  (case a_z33=>k_is)
  (case l_z33=>k_is)
  (case k_z33=>k_is)
  (case p_z33=>k_is)
  (case a_z12=>k_is)
  (case l_z12=>k_is)
  (case k_z12=>k_is)
  (case p_z12=>k_is)
  (case a_z10=>k_is)
  (case l_z10=>k_is)
  (case k_z10=>k_is)
  (case p_z10=>k_is)
  (case a_z34=>k_is)
  (case l_z34=>k_is)
  (case k_z34=>k_is)
  (case p_z34=>k_is)
  (case a_z4=>k_is)
  (case l_z4=>k_is)
  (case k_z4=>k_is)
  (case p_z4=>k_is)
  (case a_z29=>k_is)
  (case l_z29=>k_is)
  (case k_z29=>k_is)
  (case p_z29=>k_is)
  (case a_z16=>k_is)
  (case l_z16=>k_is)
  (case k_z16=>k_is)
  (case p_z16=>k_is)
  (case a_z31=>k_is)
  (case l_z31=>k_is)
  (case k_z31=>k_is)
  (case p_z31=>k_is)
  (case a_z32=>k_is)
  (case l_z32=>k_is)
  (case k_z32=>k_is)
  (case p_z32=>k_is)
  (case ga_Bound_init=>k_is)
  (case gr_Bound_init=>k_is)
  (case gf_Bound_init=>k_is)
  (case cg_Store=>k_is)
  (case ch_Store=>k_is)
  (case co_Store=>k_is)
  (case cs_Store=>k_is)
  (case mm_Store=>k_is)
  (case mi_Store=>k_is)
  (case mf_Store=>k_is)
  (case mp_Store=>k_is)
  (case na_Store_many=>k_is)
  (case ea_Store_is_state=>k_is)
  (case ef_Store_is_state=>k_is)
  (case ea_Store_is_wish=>k_is)
  (case ef_Store_is_wish=>k_is)
  (case ea_Store_moves=>k_is)
  (case ef_Store_moves=>k_is)
  (case ea_Store_price=>k_is)
  (case ef_Store_price=>k_is)
  (case ea_Store_priced=>k_is)
  (case ef_Store_priced=>k_is)
  (case cg_Keeper=>k_is)
  (case ch_Keeper=>k_is)
  (case co_Keeper=>k_is)
  (case cs_Keeper=>k_is)
  (case mm_Keeper=>k_is)
  (case mi_Keeper=>k_is)
  (case mf_Keeper=>k_is)
  (case mp_Keeper=>k_is)
  (case na_Keeper_row=>k_is)
  (case na_Keeper_spent=>k_is)
  (case na_Keeper_standing=>k_is)
  (case na_Keeper_world=>k_is)
  (case ea_Keeper_learn=>k_is)
  (case ef_Keeper_learn=>k_is)
  (case ea_Keeper_paid=>k_is)
  (case ef_Keeper_paid=>k_is)
  (case ea_Keeper_pay=>k_is)
  (case ef_Keeper_pay=>k_is)
  (case ea_Keeper_price_to=>k_is)
  (case ef_Keeper_price_to=>k_is)
  (case ea_Keeper_row_behind=>k_is)
  (case ef_Keeper_row_behind=>k_is)
  (case ea_Keeper_state=>k_is)
  (case ef_Keeper_state=>k_is)
  (case ea_Keeper_target=>k_is)
  (case ef_Keeper_target=>k_is)
  (case z_all=>k_is)
  (case z_bool=>k_is)
  (case z_int=>k_is)
  (case z_isinstance=>k_is)
  (case z_len=>k_is)
  (case z_list=>k_is)
  (case z_max=>k_is)
  (case z_min=>k_is)
  (case z_range=>k_is)
  (case z_reversed=>k_is)
  (case z_set=>k_is)
  (case z_sorted=>k_is)
  (case z_str=>k_is)
  (case z_tuple=>k_is)
  (case z_zip=>k_is)
  (case va_NAMES=>k_is)
  (case vl_NAMES=>k_is)
  (case zk_MOST_STATES=>k_is)
  (case nt=>kernel_rfl)
  (case ntb=>(intro z;cases z))
