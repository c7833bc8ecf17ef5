import PyProof.Rows.All
import Wide.All
import OpenK.AllK
import Wide.FinOn
import Lean
import PyProof.EqAt
import PyProof.EqKinds
import PyProof.TupleCall
import PyProof.ExcClass3
import PyProof.InstStoreFacts
import PyProof.RulesAs
import PyProof.NsDelKeeps
import PyProof.ExcArgsOwn
import PyProof.ExcAttrAll.ValueError
import PyProof.ExcBaseAll.ValueError
import PySem.Challenge.RW_lateknow_k82_game_refused
set_option Elab.async false
set_option linter.all false
set_option maxRecDepth 100000
set_option maxHeartbeats 4000000
set_option Elab.async false
set_option linter.all false
set_option maxRecDepth 100000
namespace L2
open PySem PySem.Spec PyProof.Rows
abbrev Key:=Sum Int Str
def jff:Key→Value→Bool
 | .inl k,v=>Value.isInt k v
 | .inr x,v=>Value.isStrOf x v
def keyH (w:World):Key→Int
 | .inl k=>hashInt k
 | .inr x=>hashStr w x
theorem j0z:∀ {k:Key}{v:Value},jff k v=true→(∃ i t,k=Sum.inl i∧v=Value.int i t)∨(∃ x t,k=Sum.inr x∧v=Value.str x t)
 | .inl i,v,h=>by
  obtain⟨t,e⟩:=Value.isInt_shape (k:=i) (v:=v) h
  exact .inl ⟨i,t,rfl,e⟩
 | .inr x,v,h=>by
  obtain⟨t,e⟩:=Value.isStrOf_shape (x:=x) (v:=v) h
  exact .inr ⟨x,t,rfl,e⟩
theorem jb2 (i:Int) (t:Tok):jff (.inl i) (.int i t)=true:=by simp[jff,Value.isInt]
theorem j79 (x:Str) (t:Tok):jff (.inr x) (.str x t)=true:=by simp[jff,Value.isStrOf]
theorem key_ll (a b:Int):decide ((Sum.inl a:Key)=Sum.inl b)=(a == b):=by
 by_cases e:a=b
 ·subst e;simp
 ·have h:¬ (Sum.inl a:Key)=Sum.inl b:=fun q=>e (Sum.inl.inj q)
  rw[decide_eq_false h]
  exact (beq_eq_false_iff_ne.mpr e).symm
theorem key_rr (a b:Str):decide ((Sum.inr a:Key)=Sum.inr b)=decide (a=b):=by
 by_cases e:a=b
 ·subst e;simp
 ·have h:¬ (Sum.inr a:Key)=Sum.inr b:=fun q=>e (Sum.inr.inj q)
  rw[decide_eq_false h,decide_eq_false e]
theorem key_lr (a:Int) (b:Str):decide ((Sum.inl a:Key)=Sum.inr b)=false:=decide_eq_false (fun q=>nomatch q)
theorem key_rl (a:Str) (b:Int):decide ((Sum.inr a:Key)=Sum.inl b)=false:=decide_eq_false (fun q=>nomatch q)
def j1y (prog:Program) (w:World):PySem.KeyKind prog w Key where
 is:=jff
 hash:=keyH w
 inj:=fun v a b ha hb=>by
  rcases j0z ha with⟨i,t,rfl,rfl⟩ | ⟨x,t,rfl,rfl⟩
  ·rcases j0z hb with⟨j,u,rfl,e⟩ | ⟨y,u,rfl,e⟩
   ·injection e with e1 _;rw[e1]
   ·exact nomatch e
  ·rcases j0z hb with⟨j,u,rfl,e⟩ | ⟨y,u,rfl,e⟩
   ·exact nomatch e
   ·injection e with e1 _;rw[e1]
 byValue:=fun k v h=>by
  rcases j0z h with⟨i,t,rfl,rfl⟩ | ⟨x,t,rfl,rfl⟩ <;> rfl
 pyHash:=fun hv h=>by
  rcases j0z hv with⟨i,t,rfl,rfl⟩ | ⟨x,t,rfl,rfl⟩
  ·exact wpAny_pyHash_int h
  ·exact wpAny_pyHash_str h
 eqBool:=fun hu hv h=>by
  rcases j0z hu with⟨i,t,rfl,rfl⟩ | ⟨x,t,rfl,rfl⟩
  ·rcases j0z hv with⟨j,u,rfl,rfl⟩ | ⟨y,u,rfl,rfl⟩
   ·rw[key_ll] at h;exact wpAny_eqBool_int h
   ·rw[key_lr] at h;exact SeqAt.EqAt.int_str i t y u _ _ _ _ h
  ·rcases j0z hv with⟨j,u,rfl,rfl⟩ | ⟨y,u,rfl,rfl⟩
   ·rw[key_rl] at h;exact SeqAt.EqAt.str_int x t j u _ _ _ _ h
   ·rw[key_rr] at h;exact wpAny_eqBool_str h
 «strs»:=fun k x t v h=>by
  rcases j0z h with⟨i,u,rfl,e⟩ | ⟨y,u,rfl,e⟩
  ·exact nomatch e
  ·injection e with e1 _
   subst e1
   cases v <;> rfl
theorem j84 (prog:Program) (w:World) (i:Int) (t:Tok):(j1y prog w).is (.inl i) (.int i t)=true:=jb2 i t
theorem j85 (prog:Program) (w:World) (x:Str) (t:Tok):(j1y prog w).is (.inr x) (.str x t)=true:=j79 x t
inductive V where
 | non | bl (b:Bool) | int (i:Int) | str (x:Str) | byt (b:Array UInt8) | flt (b:UInt64) | ref (a:Addr) | ty (n:String)
 deriving DecidableEq
def RelV:V→Value→Prop
 | .non,u=>u=Value.none
 | .bl b,u=>u=Value.bool b
 | .int i,u=>∃ t,u=Value.int i t
 | .str x,u=>∃ t,u=Value.str x t
 | .byt b,u=>∃ t,u=Value.bytes b t
 | .flt b,u=>∃ t,u=Value.float b t
 | .ref a,u=>u=Value.ref a
 | .ty n,u=>u=Value.type n
abbrev Vals:List V→List Value→Prop:=Paired RelV
theorem Vals.length {xs:List V}{us:List Value} (r:Vals xs us):xs.length=us.length:=Paired.length r
theorem Vals.get:∀ {xs:List V}{us:List Value}{i:Nat}{x:V},Vals xs us→xs[i]?=some x→∃ u,us[i]?=some u∧RelV x u
 | _,_,_,_,.nil,e=>by simp at e
 | _,_,0,_,.cons r _,e=>by simp at e;subst e;exact⟨_,rfl,r⟩
 | _,_,i+1,x,.cons _ t,e=>by
  obtain⟨u,h1,h2⟩:=Vals.get (i:=i) (x:=x) t (by simpa using e)
  exact⟨u,by simpa using h1,h2⟩
theorem Vals.append:∀ {xs ys:List V}{us ws:List Value},Vals xs us→Vals ys ws→Vals (xs++ys) (us++ws)
 | _,_,_,_,.nil,s=>s
 | _,_,_,_,.cons r t,s=>.cons r (Vals.append t s)
theorem Vals.take:∀ {xs:List V}{us:List Value} (n:Nat),Vals xs us→Vals (xs.take n) (us.take n)
 | _,_,0,_=>.nil
 | _,_,_+1,.nil=>.nil
 | _,_,n+1,.cons r t=>.cons r (Vals.take n t)
theorem Vals.drop:∀ {xs:List V}{us:List Value} (n:Nat),Vals xs us→Vals (xs.drop n) (us.drop n)
 | _,_,0,r=>r
 | _,_,_+1,.nil=>.nil
 | _,_,n+1,.cons _ t=>Vals.drop n t
def RelO:Option V→Option Value→Prop
 | some v,some u=>RelV v u
 | none,none=>True
 | _,_=>False
def KV {κ:Type}:List (κ × V)→List (κ × Value)→Prop:=Paired fun (p:κ × V) (q:κ × Value)=>p.1=q.1∧RelV p.2 q.2
def kV:Key→V
 | .inl i=>.int i
 | .inr x=>.str x
def TupN (h:Heap) (a:Addr) (xs:Array Value):Prop:=IsTup h a xs∧∃ o,h.get? a=some o∧o.dict=none
theorem TupN.new (h:Heap) (xs:Array Value):TupN (h.push { cls:=.type "tuple",data:=.seq xs }) h.objs.size xs:=⟨IsTup.new _ _,_,Heap.get?_push_size _ rfl,rfl⟩
inductive HO where
  | lst (xs:List V)
  | tup (xs:List V)
  | dK (kvs:List (Key × V)) | dT (kvs:List (List Key × V))
  | set (S:Int→Bool) (n:Nat)
  | ins (C dx:Addr) (fs:List (Str × V))
  | own (x:Addr)
  | xd (fs:List (Str × V))
  | met (f x:Addr)
  | rng (lo hi:Int)
  | frz (o:Obj) (u:HO)
  | tbl (ps:Array Value)
  | ext (φ:Heap→Prop)
abbrev Hp:=Addr→Option HO
def upd (H:Hp) (a:Addr) (o:HO):Hp:=fun b=>if b=a then some o else H b
theorem j0a {H:Hp}{a:Addr}{o:HO}:upd H a o a=some o:=by unfold upd;rw[if_pos rfl]
theorem j0e {H:Hp}{a b:Addr}{o:HO} (h:b≠a):upd H a o b=H b:=by unfold upd;rw[if_neg h]
theorem jco {H:Hp}{a:Addr}{o u:HO}:upd (upd H a o) a u=upd H a u:=by
 funext b;unfold upd;split <;> rfl
theorem jij {H:Hp}{a b:Addr}{o u:HO} (h:H a=some o) (h':H b=some u) (d:o≠u):a≠b:=by
 intro e;subst e;rw[h] at h';exact d (Option.some.inj h')
theorem j04 {H:Hp}{a b:Addr}{o:HO} (h:H a=some o) (h':H b=none):a≠b:=by
 intro e;subst e;rw[h] at h';cases h'
section
variable (P:Program) (w:World)
def ObjOk (H:Hp) (h:Heap) (a:Addr):HO→Prop
 | .lst xs=>xs.length≤sizeLine∧∃ (its:List Value) (n:Nat),Vals xs its∧h.get? a=some { cls:=.type "list",data:=.seq its.toArray n }
 | .tup xs=>xs.length≤sizeLine∧∃ its:List Value,Vals xs its∧TupN h a its.toArray
 | .dK kvs=>kvs.length≤sizeLine∧(a == sysModules)=false∧∃ vs,KV kvs vs∧h.DictOf (j1y P w) a vs
 | .dT kvs=>kvs.length≤sizeLine∧(a == sysModules)=false∧∃ xs:List (List Key × Addr × Value),
   Paired (fun (p:List Key × V) (q:List Key × Addr × Value)=>p.1=q.1∧H q.2.1=some (.tup (p.1.map kV))∧RelV p.2 q.2.2) kvs xs ∧
   ∃ o es ep,h.get? a=some o∧o.ExactDict∧o.data=.dict es ep∧es.toList=xs.map (entryOfKey (tupleKind (j1y P w)))∧(xs.map (·.1)).Nodup
 | .set S n=>h.SetOf (intKind P w) a S n
 | .ins C dx fs=>H dx=some (.own a)∧fs.length≤1000∧dx≠a∧h.get? a=some (PySem.W.instObj C dx) ∧
   ∃ mA,h.Ns1 dx mA∧(∀ f,RelO (fs.lookup f) (mA f))∧PySem.Within mA (fs.map (·.1))
 | .own _=>∃ o,h.get? a=some o
 | .xd fs=>∃ mA,h.Ns1 a mA∧∀ f,RelO (fs.lookup f) (mA f)
 | .rng lo hi=>∃ t u v,h.get? a=some { cls:=.type "range",data:=.fields #[.int lo t,.int hi u,.int 1 v] }
 | .frz o u=>h.get? a=some o∧ObjOk H h a u
 | .tbl ps=>h.get? a=some { cls:=.none,data:=.fields ps }
 | .met f x=>h.get? a=some (PySem.W.methodObj (.ref f) (.ref x))
 | .ext φ=>φ h∧(∃ o,h.get? a=some o)∧∀ h1 h2:Heap,φ h1→(∀ o,h1.get? a=some o→h2.get? a=some o)→φ h2
def HOk (H:Hp) (h:Heap):Prop:=∀ a o,H a=some o→ObjOk P w H h a o
end
section
variable {P:Program}{w:World}{H H':Hp}{h h':Heap}{a:Addr}{o:HO}
theorem ObjOk.lt (x:ObjOk P w H h a o):a < h.objs.size:=by
 cases o with
 | lst xs=>obtain⟨_,_,_,_,e⟩:=x;exact Heap.lt_size e
 | tup xs=>obtain⟨_,_,_,p⟩:=x;exact p.1.lt
 | dK kvs=>obtain⟨_,_,_,_,o,_,_,e,_⟩:=x;exact Heap.lt_size e
 | dT kvs=>obtain⟨_,_,_,_,o,_,_,e,_⟩:=x;exact Heap.lt_size e
 | set S n=>obtain⟨o,_,_,_,e,_⟩:=x;exact Heap.lt_size e
 | ins C dx fs=>obtain⟨_,_,_,e,_⟩:=x;exact Heap.lt_size e
 | own y=>obtain⟨_,e⟩:=x;exact Heap.lt_size e
 | xd fs=>obtain⟨_,⟨_,_,_,e,_⟩,_⟩:=x;exact Heap.lt_size e
 | rng lo hi=>obtain⟨_,_,_,e⟩:=x;exact Heap.lt_size e
 | frz ob u=>obtain⟨e,_⟩:=x;exact Heap.lt_size e
 | tbl ps=>exact Heap.lt_size (show h.get? a=some _ from x)
 | met f y=>exact Heap.lt_size (show h.get? a=some _ from x)
 | ext φ=>obtain⟨_,⟨_,e⟩,_⟩:=x;exact Heap.lt_size e
theorem Paired.mapP {α β:Type}{F G:α→β→Prop}:∀ {l₁:List α}{l₂:List β},Paired F l₁ l₂→(∀ a b,F a b→G a b)→Paired G l₁ l₂
 | _,_,.nil,_=>.nil
 | _,_,.cons r t,f=>.cons (f _ _ r) (Paired.mapP t f)
theorem ObjOk.stay (x:ObjOk P w H h a o) (k:∀ b u,(b=a∨H b=some (.own a))→h.get? b=some u→h'.get? b=some u)
  (ho:∀ b,H b=some (.own a)→H' b=some (.own a)) (ht:∀ b xs,H b=some (.tup xs)→H' b=some (.tup xs)):ObjOk P w H' h' a o:=by
 induction o with
 | lst xs=>obtain⟨z,its,n,r,e⟩:=x;exact⟨z,its,n,r,k _ _ (.inl rfl) e⟩
 | tup xs=>obtain⟨z,its,r,⟨ob,e,c⟩,od,f,d⟩:=x;exact⟨z,its,r,⟨ob,k _ _ (.inl rfl) e,c⟩,od,k _ _ (.inl rfl) f,d⟩
 | dK kvs=>obtain⟨z,y,vs,r,ob,es,ep,e,c⟩:=x;exact⟨z,y,vs,r,ob,es,ep,k _ _ (.inl rfl) e,c⟩
 | dT kvs =>
  obtain⟨z,y,xs,r,ob,es,ep,e,c⟩:=x
  exact⟨z,y,xs,Paired.mapP r fun p q z=>⟨z.1,ht _ _ z.2.1,z.2.2⟩,ob,es,ep,k _ _ (.inl rfl) e,c⟩
 | set S n=>obtain⟨ob,es,ep,t,e,c⟩:=x;exact⟨ob,es,ep,t,k _ _ (.inl rfl) e,c⟩
 | ins C dx fs =>
  obtain⟨d,z,ne,e,mA,⟨od,es,ep,e2,c⟩,r⟩:=x
  exact⟨ho _ d,z,ne,k _ _ (.inl rfl) e,mA,⟨od,es,ep,k _ _ (.inr d) e2,c⟩,r⟩
 | own y=>obtain⟨ob,e⟩:=x;exact⟨ob,k _ _ (.inl rfl) e⟩
 | xd fs=>obtain⟨mA,⟨od,es,ep,e,c⟩,r⟩:=x;exact⟨mA,⟨od,es,ep,k _ _ (.inl rfl) e,c⟩,r⟩
 | rng lo hi=>obtain⟨t,u,v,e⟩:=x;exact⟨t,u,v,k _ _ (.inl rfl) e⟩
 | frz ob u ih=>obtain⟨e,q⟩:=x;exact⟨k _ _ (.inl rfl) e,ih q⟩
 | tbl ps =>
  have e:h.get? a=some { cls:=.none,data:=.fields ps }:=x
  show h'.get? a=some { cls:=.none,data:=.fields ps }
  exact k a _ (.inl rfl) e
 | met f y =>
  have e:h.get? a=some (PySem.W.methodObj (.ref f) (.ref y)):=x
  show h'.get? a=some (PySem.W.methodObj (.ref f) (.ref y))
  exact k a _ (.inl rfl) e
 | ext φ=>obtain⟨p,⟨o,e⟩,st⟩:=x;exact⟨st _ _ p fun o q=>k _ _ (.inl rfl) q,⟨o,k _ _ (.inl rfl) e⟩,st⟩
theorem HOk.lt (x:HOk P w H h) (e:H a=some o):a < h.objs.size:=(x a o e).lt
theorem HOk.fresh (x:HOk P w H h) (e:h.objs.size≤a):H a=none:=by
 cases q:H a with
 | none=>rfl
 | some u=>exact absurd (Nat.lt_of_lt_of_le (x.lt q) e) (Nat.lt_irrefl _)
theorem HOk.kept (x:HOk P w H h) (k:∀ b u,h.get? b=some u→h'.get? b=some u):HOk P w H h':=fun a o e =>
 (x a o e).stay (fun b u _ q=>k b u q) (fun _ q=>q) fun _ _ q=>q
theorem HOk.laid (x:HOk P w H h) (k:∀ b u,h.get? b=some u→h'.get? b=some u) (hp:h.objs.size≤a) (new:ObjOk P w (upd H a o) h' a o):HOk P w (upd H a o) h':=fun b u e=>by
 have hn:=x.fresh hp
 by_cases hb:b=a
 ·subst hb;rw[j0a] at e;cases e;exact new
 ·rw[j0e hb] at e
  exact (x b u e).stay (fun c v _ q=>k c v q) (fun c q=>by rw[j0e (j04 q hn)];exact q) fun c xs q=>by rw[j0e (j04 q hn)];exact q
end
def Rd (H:Hp) (a:Addr) (u:HO):Prop:=H a=some u∨∃ o,H a=some (.frz o u)
theorem Rd.ok {P:Program}{w:World}{H:Hp}{h:Heap}{a:Addr}{u:HO} (r:Rd H a u) (x:HOk P w H h):ObjOk P w H h a u:=by
 rcases r with r | ⟨o,r⟩
 ·exact x a u r
 ·obtain⟨_,q⟩:=x a _ r
  exact q
def Mut:Option HO→Prop
 | some (.lst _)=>True
 | some (.dK _)=>True
 | some (.dT _)=>True
 | some (.set _ _)=>True
 | some (.ins _ _ _)=>True
 | some (.ext _)=>True
 | _=>False
section
variable {P:Program}{w:World}{H:Hp}{h h':Heap}{x e:Addr}{o':HO}
theorem HOk.write (ok:HOk P w H h) (mu:Mut (H x)) (he:e=x∨H e=some (.own x)) (k:∀ b u,b≠e→h.get? b=some u→h'.get? b=some u) (heo:∃ u,h'.get? e=some u)
  (new:ObjOk P w (upd H x o') h' x o'):HOk P w (upd H x o') h':=fun b u q=>by
 have nown:∀ c y,H c=some (.own y)→c≠x:=fun c y r z=>by subst z;rw[r] at mu;exact mu
 have ntup:∀ c xs,H c=some (.tup xs)→c≠x:=fun c xs r z=>by subst z;rw[r] at mu;exact mu
 by_cases hb:b=x
 ·subst hb;rw[j0a] at q;cases q;exact new
 ·rw[j0e hb] at q
  by_cases hbe:b=e
  ·have q':H b=some (.own x):=by
    rcases he with z | z
    ·exact absurd (hbe.trans z) hb
    ·rw[hbe];exact z
   rw[q] at q';cases q'
   obtain⟨v,hv⟩:=heo
   exact⟨v,by rw[hbe];exact hv⟩
  ·refine (ok b u q).stay (fun c v hc r=>k c v ?_ r) (fun c r=>by rw[j0e (nown c b r)];exact r) fun c xs r=>by rw[j0e (ntup c xs r)];exact r
   rcases hc with rfl | hc
   ·exact hbe
   ·rintro rfl
    rcases he with z | z
    ·exact nown c b hc z
    ·rw[hc] at z;cases z;exact hb rfl
end
structure Un (fs ex:List Addr) (H H':Hp) (h h':Heap):Prop where
 keep:∀ b o,h.get? b=some o→H b=none→b∉fs→b∉ex→h'.get? b=some o
 slot:∀ b o,h.get? b=some o→H b=none→b∈fs→b∉ex→∃ sl,h'.get? b=some { o with slots:=sl }
 free:∀ b o,h.get? b=some o→H b=none→b∉ex→H' b=none
 there:∀ b o,h.get? b=some o→b∉ex→∃ o',h'.get? b=some o'
 tups:∀ b xs,H b=some (.tup xs)→H' b=some (.tup xs)
 frzs:∀ b o u,H b=some (.frz o u)→H' b=some (.frz o u)
 tbls:∀ b ps,H b=some (.tbl ps)→∃ more,H' b=some (.tbl (ps++more))
section
variable {fs fs' ex ex':List Addr}{H H1 H2:Hp}{h h1 h2 h':Heap}{a x e:Addr}{o:HO}
theorem Un.any (u:Un fs ex H H1 h h1) {b:Addr}{ob:Obj} (q:h.get? b=some ob) (n:H b=none) (hx:b∉ex):∃ sl,h1.get? b=some { ob with slots:=sl }:=by
 by_cases hb:b∈fs
 ·exact u.slot b ob q n hb hx
 ·exact⟨ob.slots,u.keep b ob q n hb hx⟩
theorem Un.kept (k:∀ b u,h.get? b=some u→h'.get? b=some u):Un fs ex H H h h' :=
 ⟨fun b ob q _ _ _=>k b ob q,fun b ob q _ _ _=>⟨ob.slots,k b ob q⟩,fun _ _ _ n _=>n,fun b ob q _=>⟨ob,k b ob q⟩,fun _ _ q=>q,fun _ _ _ q=>q,fun _ ps q=>⟨#[],by rw[q];simp⟩⟩
theorem Un.refl:Un fs ex H H h h:=Un.kept fun _ _ q=>q
theorem Un.laid (k:∀ b u,h.get? b=some u→h'.get? b=some u) (hp:h.objs.size≤a) (hn:H a=none):Un fs ex H (upd H a o) h h' where
 keep:=fun b u q _ _ _=>k b u q
 slot:=fun b u q _ _ _=>⟨u.slots,k b u q⟩
 free:=fun b u q n _=>by rw[j0e (Nat.ne_of_lt (Nat.lt_of_lt_of_le (Heap.lt_size q) hp))];exact n
 there:=fun b u q _=>⟨u,k b u q⟩
 tups:=fun b xs q=>by rw[j0e (j04 q hn)];exact q
 frzs:=fun b u xs q=>by rw[j0e (j04 q hn)];exact q
 tbls:=fun b ps q=>⟨#[],by rw[j0e (j04 q hn),q];simp⟩
theorem Un.write (mu:Mut (H x)) (he:e=x∨H e=some (.own x)) (k:∀ b u,b≠e→h.get? b=some u→h'.get? b=some u) (heo:∃ u,h'.get? e=some u):Un fs ex H (upd H x o) h h':=by
 have hx:∀ b,H b=none→b≠x:=fun b n z=>by subst z;rw[n] at mu;exact mu
 have hb:∀ b,H b=none→b≠e:=fun b n z=>by
  subst z
  rcases he with r | r
  ·exact hx b n r
  ·rw[n] at r;cases r
 have hm:∀ b u,H b=some u→¬ Mut (some u)→b≠x:=fun b u q nm z=>by subst z;rw[q] at mu;exact nm mu
 refine⟨fun b u q n _ _=>k b u (hb b n) q,fun b u q n _ _=>⟨u.slots,k b u (hb b n) q⟩,fun b u q n _=>by rw[j0e (hx b n)];exact n,fun b u q _=>?_,
  fun b xs q=>by rw[j0e (hm b _ q fun z=>z)];exact q,fun b u xs q=>by rw[j0e (hm b _ q fun z=>z)];exact q,fun b ps q=>⟨#[],by rw[j0e (hm b _ q fun z=>z),q];simp⟩⟩
 by_cases hbe:b=e
 ·subst hbe;exact heo
 ·exact⟨u,k b u hbe q⟩
end
def trk (h:Heap) (H:Hp):List Addr:=(List.range h.objs.size).filter fun a=>(H a).isSome
def hidT (h:Heap) (H:Hp):Heap:=PySem.W.hideAll h (trk h H)
theorem jb3 (h:Heap) (H:Hp):(hidT h H).objs.size=h.objs.size:=PySem.W.hideAll_size _ _
theorem jdp {h:Heap}{H:Hp}{b:Addr}{o:Obj} (e:h.get? b=some o) (n:H b=none):(hidT h H).get? b=some o :=
 PySem.W.hideAll_get _ e fun hm=>by
  have q:(H b).isSome=true:=(List.mem_filter.mp hm).2
  rw[n] at q;simp at q
theorem jfl {h:Heap}{H:Hp}{b:Addr}{o:Obj} (e:(hidT h H).get? b=some o):h.get? b=some o∧H b=none:=by
 have e':h.get? b=some o:=PySem.W.of_hideAll (trk h H) e
 refine⟨e',?_⟩
 cases q:H b with
 | none=>rfl
 | some x =>
  have hm:b∈trk h H:=List.mem_filter.mpr ⟨List.mem_range.mpr (Heap.lt_size e'),by simp[q]⟩
  have z:(hidT h H).get? b=none:=PySem.W.hideAll_none (trk h H) hm
  rw[z] at e;cases e
def jfm (g h:Heap) (L:Addr):List (Addr × Obj):=(List.range h.objs.size).filterMap fun a=>if a=L∨(g.get? a).isSome=true then none else (h.get? a).map fun o=>(a,o)
def rest (g h:Heap) (L d:Addr):List (Addr × Obj):=(jfm g h L).filter fun p=>decide (p.1≠d)
structure Mod (K:PySem.W.Frag) (mg:Str→Option Value) (base:Heap):Prop where
 kin:K.In base
 glob:base.Ns mainGlobals mg
 blt:∃ mb,base.Ns builtinsNs mb∧∀ x:Str,x≠"__name__"→mb x=bootBuiltins x
 nolimit:base.NoLimit
 bmain:∃ bm ob,mg "__builtins__"=some (.ref bm)∧bm≠builtinsNs∧base.get? bm=some ob∧ob.cls=.type "module"∧ob.dict=some builtinsNs∧ob.data=.plain
structure Cx where
 prog:Program
 w:World
 K:PySem.W.Frag
 mg:Str→Option Value
 base:Heap
 A:Around
 N:List Str
 s₀:Shared
 H₀:Hp
 env:Env
 outer:List Env
 stack:List Env
 ex:List Addr
 fn:Str→Bool
 calm:Bool
 pn:List (Addr × Obj)
 xe:Value→Shared→Prop
def frs (l:List Env):List Addr:=l.filterMap (·.frame)
abbrev Cx.fs (X:Cx):List Addr:=frs X.outer
def Vis (sc:Scope) (x:Str):Prop:=sc.names.lookup x=some .local∨sc.names.lookup x=some .cell∨sc.names.lookup x=some .free
def Loc (sc:Scope) (x:Str):Prop:=sc.names.lookup x=some .local∨sc.names.lookup x=some .cell
def Look (env:Env) (h:Heap) (m:Str→Option Value) (x:Str) (u:Value):Prop :=
 (env.kindOf x=some .local∧m x=some u)∨((env.kindOf x=some .cell∨env.kindOf x=some .free)∧∃ c,env.cells.lookup x=some c∧h.IsCell c (some u))
structure Cx.Ok (X:Cx):Prop where
 mod:Mod X.K X.mg X.base
 kind:X.env.scope.kind=.function
 glob:X.env.globals=mainGlobals
 blt:X.env.builtins=builtinsNs
 above:X.s₀.heap.objs.size≤X.env.locals
 inj:∀ x y c,X.env.cells.lookup x=some c→X.env.cells.lookup y=some c→x=y
 has:∀ x,(X.env.kindOf x=some .cell∨X.env.kindOf x=some .free)→∃ c,X.env.cells.lookup x=some c
 cab:∀ x c,X.fn x=true→X.env.cells.lookup x=some c→X.s₀.heap.objs.size≤c
 hd:X.calm=true→X.A.handled=none
 frames:X.A.frames=some X.stack
 stk:X.stack=X.outer∨(X.stack=X.env :: X.outer∧X.env.frame=some X.env.locals)
 exf:∀ b∈X.ex,b≠X.env.locals∧∀ x c,X.env.cells.lookup x=some c→c≠b
 bs:∀ b o,X.base.get? b=some o→X.s₀.heap.get? b=some o∧X.H₀ b=none
 bsz:X.base.objs.size≤X.s₀.heap.objs.size
 noex:∀ b o,X.base.get? b=some o→b∉X.ex
 exfs:∀ b∈X.ex,b∉X.fs
 funs:X.s₀.heap.FunFrames X.base X.outer
 frf:∀ b∈X.fs,X.H₀ b=none
structure Inv (X:Cx) (pins:List (Addr × Obj)) (σ:List (Option V)) (H:Hp) (s:Shared):Prop where
 ok:X.Ok
 os:s.os=X.s₀.os
 bare:AllBare s.gens
 base:Un X.fs X.ex X.H₀ H X.s₀.heap s.heap
 loc:∃ m,s.heap.Ns X.env.locals m∧∀ (i:Nat) (x:Str) (v:V),X.N[i]?=some x→σ[i]?=some (some v)→Vis X.env.scope x→∃ u,RelV v u∧Look X.env s.heap m x u
 cell:∀ x c,X.env.cells.lookup x=some c→∃ v,s.heap.IsCell c v
 free:H X.env.locals=none
 freeC:∀ x c,X.env.cells.lookup x=some c→H c=none
 pin:∀ p∈X.pn++pins,s.heap.get? p.1=some p.2∧H p.1=none∧p.1≠X.env.locals∧p.1∉X.fs∧∀ v,p.2.data≠.cell v
 hok:HOk X.prog X.w H s.heap
 len:σ.length=X.N.length
section
variable {X:Cx}{pins:List (Addr × Obj)}{σ:List (Option V)}{H H':Hp}{s:Shared}{h':Heap}
theorem Cx.Ok.nofr (ok:X.Ok) {b:Addr}{o:Obj} (e:X.base.get? b=some o):b∉X.fs:=fun hb=>by
 have:=(ok.funs.mem hb).1
 rw[e] at this;cases this
theorem Inv.bs (I:Inv X pins σ H s):∀ b o,X.base.get? b=some o→s.heap.get? b=some o∧H b=none:=fun b o e =>
 ⟨I.base.keep b o (I.ok.bs b o e).1 (I.ok.bs b o e).2 (I.ok.nofr e) (I.ok.noex b o e),I.base.free b o (I.ok.bs b o e).1 (I.ok.bs b o e).2 (I.ok.noex b o e)⟩
theorem Inv.bk (I:Inv X pins σ H s):∀ b o,X.base.get? b=some o→s.heap.get? b=some o:=fun b o e=>(I.bs b o e).1
theorem Inv.mod (I:Inv X pins σ H s):Mod X.K X.mg X.base:=I.ok.mod
theorem Inv.kIn (I:Inv X pins σ H s):X.K.In s.heap:=I.ok.mod.kin.keeps I.bk
theorem Inv.lt (I:Inv X pins σ H s):X.env.locals < s.heap.objs.size:=let ⟨_,hn,_⟩:=I.loc;hn.lt
theorem Inv.sz (I:Inv X pins σ H s):X.s₀.heap.objs.size≤s.heap.objs.size:=Nat.le_trans I.ok.above (Nat.le_of_lt I.lt)
theorem Inv.nofs (I:Inv X pins σ H s) {a:Addr} (h:s.heap.objs.size≤a):a∉X.fs:=fun hb=>by
 obtain⟨_,o,ho,_⟩:=I.ok.funs.mem hb
 exact absurd (Nat.lt_of_lt_of_le (Heap.lt_size ho) (Nat.le_trans I.sz h)) (Nat.lt_irrefl _)
theorem Inv.cne (I:Inv X pins σ H s):∀ x c,X.env.cells.lookup x=some c→c≠X.env.locals:=fun x c e z=>by
 obtain⟨v,o,ho,hd⟩:=I.cell x c e
 obtain⟨m,⟨o',es,ep,ho',hd',_⟩,_⟩:=I.loc
 rw[z,ho'] at ho;cases ho;rw[hd'] at hd;cases hd
theorem Inv.funs (I:Inv X pins σ H s):s.heap.FunFrames X.base X.outer:=by
 have all:∀ (l:List Env),(∀ b∈frs l,b∈X.fs)→X.s₀.heap.FunFrames X.base l→s.heap.FunFrames X.base l:=by
  intro l
  induction l with
  | nil=>intro _ _;trivial
  | cons env r ih =>
   intro hs hl
   obtain⟨hk,⟨L,o,hf,hn,ho,hd⟩,hr⟩:=hl
   have hL:L∈X.fs:=hs L (by unfold frs;rw[List.filterMap_cons,hf];exact List.mem_cons_self)
   obtain⟨sl,e⟩:=I.base.slot L o ho (I.ok.frf L hL) hL fun z=>I.ok.exfs L z hL
   exact⟨hk,⟨L,_,hf,hn,e,hd⟩,ih (fun b hb=>hs b (by unfold frs;rw[List.filterMap_cons,hf];exact List.mem_cons_of_mem _ hb)) hr⟩
 exact all X.outer (fun _ hb=>hb) I.ok.funs
theorem Inv.stack (I:Inv X pins σ H s):s.heap.FunFrames X.base X.stack:=by
 rcases I.ok.stk with e | ⟨e,hf⟩
 ·rw[e];exact I.funs
 ·rw[e]
  obtain⟨m,hn,_⟩:=I.loc
  refine .cons (by rw[I.ok.kind];decide) hf hn ?_ I.funs
  exact Heap.get?_none_of_le (Nat.le_trans I.ok.bsz I.ok.above)
theorem Inv.stkSub (I:Inv X pins σ H s):∀ b∈frs X.stack,b∈X.env.locals :: X.fs:=fun b hb=>by
 rcases I.ok.stk with e | ⟨e,hf⟩
 ·rw[e] at hb;exact List.mem_cons_of_mem _ hb
 ·rw[e] at hb
  unfold frs at hb
  rw[List.filterMap_cons,hf] at hb
  exact hb
theorem Inv.stkFree (I:Inv X pins σ H s):∀ b∈frs X.stack,H b=none:=fun b hb=>by
 rcases List.mem_cons.mp (I.stkSub b hb) with e | hb
 ·rw[e];exact I.free
 ·obtain⟨_,o,ho,_⟩:=I.ok.funs.mem hb
  exact I.base.free b o ho (I.ok.frf b hb) fun z=>I.ok.exfs b z hb
theorem Inv.step {g':Array GenState}{t':Nat}{d':Drawn}{ch:List Addr} (I:Inv X pins σ H s)
  (hch:∀ b∈ch,(b∈X.ex∨X.s₀.heap.objs.size≤b)∧b≠X.env.locals∧(∀ x c,X.env.cells.lookup x=some c→c≠b)∧∀ p∈X.pn++pins,p.1≠b)
  (keep:∀ b o,b≠X.env.locals→b∉X.fs→b∉ch→s.heap.get? b=some o→H b=none→h'.get? b=some o)
  (slot:∀ b o,b≠X.env.locals→b∈X.fs→b∉ch→s.heap.get? b=some o→H b=none→∃ sl,h'.get? b=some { o with slots:=sl }) (free:∀ b o,b∉ch→s.heap.get? b=some o→H b=none→H' b=none)
  (there:∀ b o,b∉ch→s.heap.get? b=some o→∃ o',h'.get? b=some o')
  (tups:∀ b xs,H b=some (.tup xs)→H' b=some (.tup xs)) (frzs:∀ b o u,H b=some (.frz o u)→H' b=some (.frz o u)) (tbls:∀ b ps,H b=some (.tbl ps)→∃ more,H' b=some (.tbl (ps++more)))
  (ns:∀ m,s.heap.Ns X.env.locals m→h'.Ns X.env.locals m) (hok:HOk X.prog X.w H' h') (hg:AllBare g') :
  Inv X pins σ H' { s with heap:=h',gens:=g',drawn:=d',toks:=t' }:=by
 have neL:∀ b o,X.s₀.heap.get? b=some o→b≠X.env.locals:=fun b o e=>Nat.ne_of_lt (Nat.lt_of_lt_of_le (Heap.lt_size e) I.ok.above)
 have neC:∀ b o,X.s₀.heap.get? b=some o→b∉X.ex→b∉ch:=fun b o e hx hb=>by
  rcases (hch b hb).1 with z | z
  ·exact hx z
  ·exact absurd (Nat.lt_of_lt_of_le (Heap.lt_size e) z) (Nat.lt_irrefl _)
 have cellK:∀ x c,X.env.cells.lookup x=some c→∀ v,s.heap.IsCell c v→h'.IsCell c v:=fun x c e v ⟨o,ho,hd⟩=>by
  have nch:c∉ch:=fun z=>(hch c z).2.2.1 x c e rfl
  by_cases hc:c∈X.fs
  ·obtain⟨sl,q⟩:=slot c o (I.cne x c e) hc nch ho (I.freeC x c e)
   exact⟨_,q,hd⟩
  ·exact⟨o,keep c o (I.cne x c e) hc nch ho (I.freeC x c e),hd⟩
 refine⟨I.ok,I.os,hg,⟨fun b o e n hb hx=>?_,fun b o e n hb hx=>?_,fun b o e n hx=>?_,fun b o e hx=>?_,fun b xs e=>tups b xs (I.base.tups b xs e),fun b o xs e=>frzs b o xs (I.base.frzs b o xs e),fun b ps e=>?_⟩,?_,fun x c e=>?_,?_,fun x c e=>?_,fun p hp=>?_,hok,I.len⟩
 ·exact keep b o (neL b o e) hb (neC b o e hx) (I.base.keep b o e n hb hx) (I.base.free b o e n hx)
 ·obtain⟨sl,e1⟩:=I.base.slot b o e n hb hx
  obtain⟨sl',e2⟩:=slot b _ (neL b o e) hb (neC b o e hx) e1 (I.base.free b o e n hx)
  exact⟨sl',e2⟩
 ·obtain⟨o',e1⟩:=I.base.there b o e hx
  exact free b o' (neC b o e hx) e1 (I.base.free b o e n hx)
 ·obtain⟨o',e1⟩:=I.base.there b o e hx
  exact there b o' (neC b o e hx) e1
 ·obtain⟨m1,e1⟩:=I.base.tbls b ps e
  obtain⟨m2,e2⟩:=tbls b _ e1
  exact⟨m1++m2,by rw[e2,Array.append_assoc]⟩
 ·obtain⟨m,hn,hl⟩:=I.loc
  refine⟨m,ns m hn,fun i x v e1 e2 e3=>?_⟩
  obtain⟨u,r,l⟩:=hl i x v e1 e2 e3
  refine⟨u,r,?_⟩
  rcases l with l | ⟨k,c,e,z⟩
  ·exact .inl l
  ·exact .inr ⟨k,c,e,cellK x c e _ z⟩
 ·obtain⟨v,z⟩:=I.cell x c e
  exact⟨v,cellK x c e v z⟩
 ·obtain⟨m,⟨o,_,_,ho,_⟩,_⟩:=I.loc
  exact free _ o (fun z=>(hch _ z).2.1 rfl) ho I.free
 ·obtain⟨v,o,ho,hd⟩:=I.cell x c e
  exact free c o (fun z=>(hch c z).2.2.1 x c e rfl) ho (I.freeC x c e)
 ·obtain⟨e,n,ne,nf,d⟩:=I.pin p hp
  have nch:p.1∉ch:=fun z=>(hch p.1 z).2.2.2 p hp rfl
  exact⟨keep p.1 p.2 ne nf nch e n,free p.1 p.2 nch e n,ne,nf,d⟩
theorem Inv.un {t':Nat} (I:Inv X pins σ H s) (u:Un X.fs [] H H' s.heap h') (hok:HOk X.prog X.w H' h'):Inv X pins σ H' { s with heap:=h',toks:=t' }:=by
 obtain⟨m,⟨o,es,ep,ho,r⟩,_⟩:=id I.loc
 obtain⟨sl,hL⟩:=u.any ho I.free (by simp)
 exact I.step (g':=s.gens) (d':=s.drawn) (ch:=[]) (fun _ z=>nomatch z) (fun b o _ hb _ e n=>u.keep b o e n hb (by simp)) (fun b o _ hb _ e n=>u.slot b o e n hb (by simp)) (fun b o _ e n=>u.free b o e n (by simp)) (fun b o _ e=>u.there b o e (by simp)) u.tups u.frzs u.tbls (fun m' hm=>by
  obtain⟨o',es',ep',ho',r'⟩:=hm
  rw[ho] at ho';cases ho'
  exact⟨_,es',ep',hL,r'⟩) hok I.bare
theorem Inv.call {g':Array GenState}{t':Nat}{d':Drawn}{ch:List Addr} (I:Inv X pins σ H s) (u:Un (frs X.stack) ch H H' s.heap h') (hok:HOk X.prog X.w H' h') (hg:AllBare g')
  (hch:∀ b∈ch,(b∈X.ex∨X.s₀.heap.objs.size≤b)∧b≠X.env.locals∧(∀ x c,X.env.cells.lookup x=some c→c≠b)∧∀ p∈X.pn++pins,p.1≠b) :
  Inv X pins σ H' { s with heap:=h',gens:=g',drawn:=d',toks:=t' }:=by
 obtain⟨m,⟨o,es,ep,ho,r⟩,_⟩:=id I.loc
 obtain⟨sl,hL⟩:=u.any ho I.free fun z=>(hch _ z).2.1 rfl
 exact I.step (ch:=ch) hch (fun b o hL hb hc e n=>u.keep b o e n (fun z=>(List.mem_cons.mp (I.stkSub b z)).elim hL hb) hc) (fun b o _ _ hc e n=>u.any e n hc) (fun b o hc e n=>u.free b o e n hc) (fun b o hc e=>u.there b o e hc) u.tups u.frzs u.tbls (fun m' hm=>by
  obtain⟨o',es',ep',ho',r'⟩:=hm
  rw[ho] at ho';cases ho'
  exact⟨_,es',ep',hL,r'⟩) hok hg
theorem Inv.turned {t':Nat}{it:Addr} (I:Inv X pins σ H s) (k:∀ b o,b≠it→s.heap.get? b=some o→h'.get? b=some o) (hn:H it=none) (hL:it≠X.env.locals)
  (h1:it∈X.ex∨X.s₀.heap.objs.size≤it) (h2:∀ x c,X.env.cells.lookup x=some c→c≠it) (h3:∀ p∈X.pn++pins,p.1≠it):Inv X pins σ H { s with heap:=h',toks:=t' }:=by
 have nit:∀ b u,H b=some u→b≠it:=fun b u e z=>by rw[z,hn] at e;cases e
 refine I.step (g':=s.gens) (d':=s.drawn) (ch:=[it]) (fun b hb=>?_) (fun b o _ _ hc e _=>k b o (fun z=>hc (by simp[z])) e) (fun b o _ _ hc e _=>⟨o.slots,k b o (fun z=>hc (by simp[z])) e⟩) (fun _ _ _ _ n=>n)
  (fun b o hc e=>⟨o,k b o (fun z=>hc (by simp[z])) e⟩) (fun _ _ e=>e) (fun _ _ _ e=>e) (fun b ps e=>⟨#[],by rw[e];simp⟩) (fun m hm=>?_) (fun b u e=>?_) I.bare
 ·have e:b=it:=by simpa using hb
  subst e
  exact⟨h1,hL,h2,h3⟩
 ·obtain⟨o,es,ep,ho,r⟩:=hm
  exact⟨o,es,ep,k _ o (Ne.symm hL) ho,r⟩
 ·refine (I.hok b u e).stay (fun c v hc q=>k c v ?_ q) (fun _ q=>q) fun _ _ q=>q
  rcases hc with z | z
  ·rw[z];exact nit b u e
  ·exact nit c _ z
theorem Inv.tok (I:Inv X pins σ H s) (t:Nat):Inv X pins σ H { s with toks:=t }:=I.un (h':=s.heap) (t':=t) Un.refl I.hok
theorem Inv.kept {t':Nat} (I:Inv X pins σ H s) (k:∀ b u,s.heap.get? b=some u→h'.get? b=some u):Inv X pins σ H { s with heap:=h',toks:=t' }:=I.un (Un.kept k) (I.hok.kept k)
theorem Inv.laid {a:Addr}{o:HO}{t':Nat} (I:Inv X pins σ H s) (k:∀ b u,s.heap.get? b=some u→h'.get? b=some u) (hp:s.heap.objs.size≤a) (new:ObjOk X.prog X.w (upd H a o) h' a o) :
  Inv X pins σ (upd H a o) { s with heap:=h',toks:=t' }:=I.un (Un.laid k hp (I.hok.fresh hp)) (I.hok.laid k hp new)
theorem Inv.write {x e:Addr}{o:HO}{t':Nat} (I:Inv X pins σ H s) (mu:Mut (H x)) (he:e=x∨H e=some (.own x)) (k:∀ b u,b≠e→s.heap.get? b=some u→h'.get? b=some u) (heo:∃ u,h'.get? e=some u)
  (new:ObjOk X.prog X.w (upd H x o) h' x o):Inv X pins σ (upd H x o) { s with heap:=h',toks:=t' }:=I.un (Un.write mu he k heo) (I.hok.write mu he k heo new)
theorem Inv.pins_of {pins':List (Addr × Obj)} (I:Inv X pins σ H s) (h:∀ p∈pins',s.heap.get? p.1=some p.2∧H p.1=none∧p.1≠X.env.locals∧p.1∉X.fs∧∀ v,p.2.data≠.cell v):Inv X pins' σ H s :=
 ⟨I.ok,I.os,I.bare,I.base,I.loc,I.cell,I.free,I.freeC,fun p hp=>(List.mem_append.mp hp).elim (fun z=>I.pin p (List.mem_append_left _ z)) (h p),I.hok,I.len⟩
theorem j6a {N:List Str} (hN:N.Nodup) {i j:Nat}{x:Str} (a:N[i]?=some x) (b:N[j]?=some x):i=j:=by
 obtain⟨h1,e1⟩:=List.getElem?_eq_some_iff.mp a
 obtain⟨h2,e2⟩:=List.getElem?_eq_some_iff.mp b
 exact (List.getElem_inj hN).mp (e1.trans e2.symm)
theorem jb4 {M:Model}{A:Around}{E:Value→Shared→Prop}{i:Nat}{x:Str}{v:V}{u:Value}{Q:Unit→Shared→Prop} (I:Inv X pins σ H s) (hN:X.N.Nodup) (hi:X.N[i]?=some x) (hx:Loc X.env.scope x) (r:RelV v u)
  (h:∀ s',Inv X pins (σ.set i (some v)) H s'→(∃ a,Heap.SameBut a s.heap s'.heap∧(a=X.env.locals∨X.env.cells.lookup x=some a))→Q () s') (hf:X.fn x=true∨X.env.scope.names.lookup x=some .local:=by first | exact .inl rfl | exact .inr rfl | assumption):wpAny M A (storeName X.env x u) Q E s:=by
 obtain⟨m,hn,hl⟩:=id I.loc
 have hcls:(X.env.scope.kind == .class || (X.env.scope.kind == .module && X.env.locals != X.env.globals))=false:=by rw[I.ok.kind];rfl
 have hiσ:i < σ.length:=by rw[I.len];exact (List.getElem?_eq_some_iff.mp hi).1
 have cne:=I.cne
 have tracked:∀ {a:Addr}{h':Heap},(∃ o,s.heap.get? a=some o∧H a=none)→Heap.SameBut a s.heap h'→HOk X.prog X.w H h':=fun {a h'} ha hs b ob e=>by
  obtain⟨_,_,hfree⟩:=ha
  refine (I.hok b ob e).stay (fun c w' hc q=>(hs.2 c ?_).trans q) (fun _ q=>q) fun _ _ q=>q
  rintro rfl
  rcases hc with rfl | hc
  ·rw[hfree] at e;cases e
  ·rw[hfree] at hc;cases hc
 rcases hx with hk | hk
 ·refine wpAny_storeName_local hk hn (fun h' hn' hs=>?_) hcls
  obtain⟨oL,_,_,hoL,_⟩:=id hn
  refine h _ ⟨I.ok,I.os,I.bare,⟨fun b o e n hb hx=>?_,fun b o e n hb hx=>?_,I.base.free,fun b o e hx=>?_,I.base.tups,I.base.frzs,I.base.tbls⟩,⟨_,hn',fun j y v' e1 e2 e3=>?_⟩,fun y c e=>?_,I.free,I.freeC,fun p hp=>?_,tracked ⟨oL,hoL,I.free⟩ hs,by simpa using I.len⟩ ⟨_,hs,.inl rfl⟩
  ·exact (hs.2 b (Nat.ne_of_lt (Nat.lt_of_lt_of_le (Heap.lt_size e) I.ok.above))).trans (I.base.keep b o e n hb hx)
  ·obtain⟨sl,e1⟩:=I.base.slot b o e n hb hx
   exact⟨sl,(hs.2 b (Nat.ne_of_lt (Nat.lt_of_lt_of_le (Heap.lt_size e) I.ok.above))).trans e1⟩
  ·obtain⟨o',e1⟩:=I.base.there b o e hx
   exact⟨o',(hs.2 b (Nat.ne_of_lt (Nat.lt_of_lt_of_le (Heap.lt_size e) I.ok.above))).trans e1⟩
  ·by_cases hj:j=i
   ·subst hj
    rw[hi] at e1;cases e1
    rw[List.getElem?_set_self hiσ] at e2
    cases e2
    exact⟨u,r,.inl ⟨hk,by simp⟩⟩
   ·rw[List.getElem?_set_ne (Ne.symm hj)] at e2
    obtain⟨u',r',q⟩:=hl j y v' e1 e2 e3
    refine⟨u',r',?_⟩
    rcases q with⟨k,e⟩ | ⟨k,c,e,z⟩
    ·refine .inl ⟨k,?_⟩
     have:y≠x:=fun e=>hj (j6a hN e1 (e ▸ hi))
     simp[this,e]
    ·exact .inr ⟨k,c,e,z.sameBut hs (cne y c e)⟩
  ·obtain⟨w',z⟩:=I.cell y c e
   exact⟨w',z.sameBut hs (cne y c e)⟩
  ·obtain⟨e,n,ne,nf,d⟩:=I.pin p hp
   exact⟨(hs.2 p.1 ne).trans e,n,ne,nf,d⟩
 ·have hfn:X.fn x=true:=by
   rcases hf with z | z
   ·exact z
   ·rw[z] at hk;cases hk
  obtain⟨c,hc⟩:=I.ok.has x (.inl hk)
  obtain⟨w',z⟩:=I.cell x c hc
  refine wpAny_storeName_cell I.ok.kind hk hc z (fun h' hc' hs=>?_)
  obtain⟨oc,hoc,hocd⟩:=id z
  refine h { s with heap:=h' } ⟨I.ok,I.os,I.bare,⟨fun b o e n hb hx=>?_,fun b o e n hb hx=>?_,I.base.free,fun b o e hx=>?_,I.base.tups,I.base.frzs,I.base.tbls⟩,⟨m,hn.sameBut hs (Ne.symm (cne x c hc)),fun j y v' e1 e2 e3=>?_⟩,fun y c' e=>?_,I.free,I.freeC,fun p hp=>?_,tracked ⟨oc,hoc,I.freeC x c hc⟩ hs,by simpa using I.len⟩ ⟨c,hs,.inr hc⟩
  ·exact (hs.2 b (Nat.ne_of_lt (Nat.lt_of_lt_of_le (Heap.lt_size e) (I.ok.cab x c hfn hc)))).trans (I.base.keep b o e n hb hx)
  ·obtain⟨sl,e1⟩:=I.base.slot b o e n hb hx
   exact⟨sl,(hs.2 b (Nat.ne_of_lt (Nat.lt_of_lt_of_le (Heap.lt_size e) (I.ok.cab x c hfn hc)))).trans e1⟩
  ·obtain⟨o',e1⟩:=I.base.there b o e hx
   exact⟨o',(hs.2 b (Nat.ne_of_lt (Nat.lt_of_lt_of_le (Heap.lt_size e) (I.ok.cab x c hfn hc)))).trans e1⟩
  ·by_cases hj:j=i
   ·subst hj
    rw[hi] at e1;cases e1
    rw[List.getElem?_set_self hiσ] at e2
    cases e2
    exact⟨u,r,.inr ⟨.inl hk,c,hc,hc'⟩⟩
   ·rw[List.getElem?_set_ne (Ne.symm hj)] at e2
    obtain⟨u',r',q⟩:=hl j y v' e1 e2 e3
    refine⟨u',r',?_⟩
    rcases q with q | ⟨k,c',e,z'⟩
    ·exact .inl q
    ·refine .inr ⟨k,c',e,z'.sameBut hs ?_⟩
     rintro rfl
     exact hj (j6a hN e1 (I.ok.inj _ _ _ e hc ▸ hi))
  ·by_cases hcc:c'=c
   ·subst hcc;exact⟨_,hc'⟩
   ·obtain⟨w2,z2⟩:=I.cell y c' e
    exact⟨w2,z2.sameBut hs hcc⟩
  ·obtain⟨e,n,ne,nf,d⟩:=I.pin p hp
   refine⟨(hs.2 p.1 ?_).trans e,n,ne,nf,d⟩
   intro q
   rw[q,hoc] at e
   have q':oc=p.2:=Option.some.inj e
   exact d w' (by rw[← q'];exact hocd)
theorem j4k {M:Model}{A:Around}{E:Value→Shared→Prop}{i:Nat}{x:Str}{v:V}{u:Value}{Q:Unit→Shared→Prop} (I:Inv X pins σ H s) (hN:X.N.Nodup) (hi:X.N[i]?=some x) (hx:Loc X.env.scope x) (r:RelV v u)
  (h:∀ s',Inv X pins (σ.set i (some v)) H s'→Q () s') (hf:X.fn x=true∨X.env.scope.names.lookup x=some .local:=by first | exact .inl rfl | exact .inr rfl | assumption):wpAny M A (storeName X.env x u) Q E s :=
 jb4 I hN hi hx r (fun s' I' _=>h s' I') hf
theorem Inv.call' {s':Shared}{ch:List Addr} (I:Inv X pins σ H s) (ho:s'.os=s.os) (u:Un (frs X.stack) ch H H' s.heap s'.heap) (hok:HOk X.prog X.w H' s'.heap) (hg:AllBare s'.gens)
  (hch:∀ b∈ch,(b∈X.ex∨X.s₀.heap.objs.size≤b)∧b≠X.env.locals∧(∀ x c,X.env.cells.lookup x=some c→c≠b)∧∀ p∈X.pn++pins,p.1≠b):Inv X pins σ H' s':=by
 obtain⟨h',g',d',t',o'⟩:=s'
 have e:o'=s.os:=ho
 subst e
 exact I.call (g':=g') (t':=t') (d':=d') u hok hg hch
end
abbrev XK:=Value→Option Addr→Hp→Prop
abbrev St:=List (Option V)
abbrev VK:=V→Hp→Prop
abbrev TE:=St→Hp→VK→Prop
abbrev TT:=St→Hp→(Bool→Hp→Prop)→Prop
abbrev TA:=St→Hp→(List V→Hp→Prop)→Prop
structure Ends where
 nx:St→Hp→Prop
 rt:VK
 bk:St→Hp→Prop:=fun _ _=>False
 ct:St→Hp→Prop:=fun _ _=>False
abbrev TS:=Ends→St→Hp→Prop
def EP (X:Cx) (pins:List (Addr × Obj)) (σ:St) (Q:VK) (u:Value) (s':Shared):Prop:=∃ v H',Inv X pins σ H' s'∧RelV v u∧Q v H'
def TP (X:Cx) (pins:List (Addr × Obj)) (σ:St) (Q:Bool→Hp→Prop) (b:Bool) (s':Shared):Prop:=∃ H',Inv X pins σ H' s'∧Q b H'
def AP (X:Cx) (pins:List (Addr × Obj)) (σ:St) (Q:List V→Hp→Prop) (us:List Value) (s':Shared):Prop:=∃ vs H',Inv X pins σ H' s'∧Vals vs us∧Q vs H'
def SP (X:Cx) (pins:List (Addr × Obj)) (D:Ends) (f:Flow) (s':Shared):Prop :=
 match f with
 | .next=>∃ σ' H',Inv X pins σ' H' s'∧D.nx σ' H'
 | .brk=>∃ σ' H',Inv X pins σ' H' s'∧D.bk σ' H'
 | .cont=>∃ σ' H',Inv X pins σ' H' s'∧D.ct σ' H'
 | .ret u=>∃ v σ' H',Inv X pins σ' H' s'∧RelV v u∧D.rt v H'
def PE (X:Cx) (e:Expr) (t:TE):Prop :=
 ∀ (pins:List (Addr × Obj)) (s:Shared) (σ:St) (H:Hp) (Q:VK),Inv X pins σ H s→t σ H Q→wpAny (model X.prog X.w) X.A (eval e X.env) (EP X pins σ Q) X.xe s
def PT (X:Cx) (e:Expr) (t:TT):Prop :=
 ∀ (pins:List (Addr × Obj)) (s:Shared) (σ:St) (H:Hp) (Q:Bool→Hp→Prop),Inv X pins σ H s→t σ H Q→wpAny (model X.prog X.w) X.A (isTrue e X.env (eval e X.env)) (TP X pins σ Q) X.xe s
def PW (X:Cx) (e:Expr) (t:TT):Prop :=
 ∀ (whole:Sem Value) (pins:List (Addr × Obj)) (s:Shared) (σ:St) (H:Hp) (Q:Bool→Hp→Prop),Inv X pins σ H s→t σ H Q→wpAny (model X.prog X.w) X.A (isTrue e X.env whole) (TP X pins σ Q) X.xe s
theorem PW.pt {X:Cx}{e:Expr}{t:TT} (h:PW X e t):PT X e t:=h _
def PA (X:Cx) (es:List Expr) (t:TA):Prop :=
 ∀ (pos:Pos) (pins:List (Addr × Obj)) (s:Shared) (σ:St) (H:Hp) (Q:List V→Hp→Prop),Inv X pins σ H s→t σ H Q→wpAny (model X.prog X.w) X.A (spliced (backTo pos (starEach es X.env))) (AP X pins σ Q) X.xe s
def PS (X:Cx) (st:Stmt) (t:TS):Prop :=
 ∀ (pins:List (Addr × Obj)) (s:Shared) (σ:St) (H:Hp) (D:Ends),Inv X pins σ H s→t D σ H→wpAny (model X.prog X.w) X.A (exec st X.env) (SP X pins D) X.xe s
def PSs (X:Cx) (st:List Stmt) (t:TS):Prop :=
 ∀ (pins:List (Addr × Obj)) (s:Shared) (σ:St) (H:Hp) (D:Ends),Inv X pins σ H s→t D σ H→wpAny (model X.prog X.w) X.A (execs st X.env) (SP X pins D) X.xe s
theorem thn {α:Type}{t:Sem α}{Q Q':α→Shared→Prop}{M:Model}{A:Around}{E:Value→Shared→Prop}{s:Shared} (h:wpAny M A t Q E s) (hQ:∀ a s,Q a s→Q' a s):wpAny M A t Q' E s:=wpAny_mono h hQ fun _ _ x=>x
section
variable {X:Cx}
def tVar (i:Nat):TE:=fun σ H Q=>∃ v,σ[i]?=some (some v)∧Q v H
def tC (v:V):TE:=fun _ H Q=>Q v H
theorem pe_var {i:Nat}{x:Str}{pos:Pos} (hN:X.N[i]?=some x) (hv:Vis X.env.scope x) (hd:(x == ("__debug__":Str))=false:=by decide) (hcd:(x == ("__classdict__":Str))=false:=by decide):PE X (.Name x pos) (tVar i):=by
 intro pins s σ H Q I h
 obtain⟨v,e,h⟩:=h
 obtain⟨m,hn,hl⟩:=I.loc
 obtain⟨u,r,l⟩:=hl i x v hN e hv
 have fin:EP X pins σ Q u s:=⟨v,H,I,r,h⟩
 rcases l with⟨hk,hm⟩ | ⟨hk,c,hc,hcell⟩
 ·exact wpAny_Name (wpAny_loadName_local I.ok.kind hk hn hm fin) hd
 ·rcases hk with hk | hk
  ·exact wpAny_Name (wpAny_loadName_cell I.ok.kind hk hc hcell fin) hd
  ·exact wpAny_Name (wpAny_loadName_free I.ok.kind hk hc hcell fin hcd) hd
theorem j05 {i j pos}:PE X (.Constant (.int i) j pos) (tC (.int i)):=fun _ _ _ H _ I h=>wpAny_Constant_int ⟨.int i,H,I.tok _,⟨_,rfl⟩,h⟩
theorem j4c {b j pos}:PE X (.Constant (.bool b) j pos) (tC (.bl b)):=fun _ _ _ H _ I h=>Constant_bool ⟨.bl b,H,I,rfl,h⟩
theorem j6b {j pos}:PE X (.Constant .none j pos) (tC .non):=fun _ _ _ H _ I h=>Constant_none ⟨.non,H,I,rfl,h⟩
theorem j06 {x j pos}:PE X (.Constant (.str x) j pos) (tC (.str x)):=fun _ _ _ H _ I h=>Calls.Constant_str ⟨.str x,H,I.tok _,⟨_,rfl⟩,h⟩
def Gl (X:Cx) (x:Str):Prop:=X.env.kindOf x=some .globalImplicit
theorem j2h {E:Value→Shared→Prop}{pins:List (Addr × Obj)}{s:Shared}{σ:St}{H:Hp}{x:Str}{u:Value}{pos:Pos}{Q:Value→Shared→Prop} (I:Inv X pins σ H s) (hg:Gl X x) (hm:X.mg x=some u) (h:Q u s)
  (hd:(x == ("__debug__":Str))=false:=by decide):wpAny (model X.prog X.w) X.A (eval (.Name x pos) X.env) Q E s :=
 Calls.Name_function_global I.ok.kind hg (Calls.loadGlobal_global (by rw[I.ok.glob];exact I.mod.glob.keeps I.bk) hm h) hd
theorem j5a {E:Value→Shared→Prop}{pins:List (Addr × Obj)}{s:Shared}{σ:St}{H:Hp}{x:Str}{u:Value}{pos:Pos}{Q:Value→Shared→Prop} (I:Inv X pins σ H s) (hg:Gl X x) (hm:X.mg x=none) (hv:bootBuiltins x=some u) (h:Q u s)
  (hn:x≠"__name__":=by decide) (hd:(x == ("__debug__":Str))=false:=by decide):wpAny (model X.prog X.w) X.A (eval (.Name x pos) X.env) Q E s:=by
 obtain⟨mb,h1,h2⟩:=I.mod.blt
 exact Calls.Name_function_global I.ok.kind hg (Calls.loadGlobal_builtin (by rw[I.ok.glob];exact I.mod.glob.keeps I.bk) hm (by rw[I.ok.blt];exact h1.keeps I.bk) ((h2 x hn).trans hv) h) hd
theorem j1j {x:Str}{v:V}{u:Value}{pos:Pos} (hg:Gl X x) (hm:X.mg x=some u) (r:RelV v u) (hd:(x == ("__debug__":Str))=false:=by decide):PE X (.Name x pos) (tC v) :=
 fun _ _ _ H _ I h=>j2h I hg hm ⟨v,H,I,r,h⟩ hd
theorem j17 {x:Str}{v:V}{u:Value}{pos:Pos} (hg:Gl X x) (hm:X.mg x=none) (hv:bootBuiltins x=some u) (r:RelV v u) (hn:x≠"__name__":=by decide) (hd:(x == ("__debug__":Str))=false:=by decide):PE X (.Name x pos) (tC v) :=
 fun _ _ _ H _ I h=>j5a I hg hm hv ⟨v,H,I,r,h⟩ hn hd
variable {a b:Expr}{ta tb:TE}{pos:Pos}
variable {tA tB':TT}{rest:List Expr}
def tAnd (t u:TT):TT:=fun σ H Q=>t σ H fun c H1=>if c=true then u σ H1 Q else Q false H1
def tOr (t u:TT):TT:=fun σ H Q=>t σ H fun c H1=>if c=true then Q true H1 else u σ H1 Q
def tNot (t:TT):TT:=fun σ H Q=>t σ H fun c H1=>Q (!c) H1
theorem jcp (ha:PT X a tA):PW X (.BoolOp .And [a] pos) tA:=by
 intro wh pins s σ H Q I h
 refine isTrue_and (thn (ha pins s σ H Q I h) fun c s1 e=>?_)
 cases c with
 | true=>exact isTrue_and_nil e
 | false=>exact e
theorem j2a (ha:PT X a tA):PW X (.BoolOp .Or [a] pos) tA:=by
 intro wh pins s σ H Q I h
 refine isTrue_or (thn (ha pins s σ H Q I h) fun c s1 e=>?_)
 cases c with
 | false=>exact isTrue_or_nil e
 | true=>exact e
theorem jb5 (ha:PT X a tA) (hb:PW X (.BoolOp .And (b :: rest) pos) tB'):PW X (.BoolOp .And (a :: b :: rest) pos) (tAnd tA tB'):=by
 intro wh pins s σ H Q I h
 refine isTrue_and (thn (ha pins s σ H _ I h) fun c s1 ⟨H1,I1,q1⟩=>?_)
 cases c with
 | true=>exact hb wh pins s1 σ H1 Q I1 q1
 | false=>exact⟨H1,I1,q1⟩
theorem j58 (ha:PT X a tA) (hb:PW X (.BoolOp .Or (b :: rest) pos) tB'):PW X (.BoolOp .Or (a :: b :: rest) pos) (tOr tA tB'):=by
 intro wh pins s σ H Q I h
 refine isTrue_or (thn (ha pins s σ H _ I h) fun c s1 ⟨H1,I1,q1⟩=>?_)
 cases c with
 | true=>exact⟨H1,I1,q1⟩
 | false=>exact hb wh pins s1 σ H1 Q I1 q1
theorem j0w (ha:PT X a tA):PT X (.UnaryOp .Not a pos) (tNot tA):=by
 intro pins s σ H Q I h
 exact isTrue_not (ha pins s σ H (fun c H1=>Q (!c) H1) I h)
def tAndV (ta tb:TE):TE:=fun σ H Q=>ta σ H fun x H1=>∃ c,x=.bl c∧if c=true then tb σ H1 Q else Q (.bl false) H1
def tOrV (ta tb:TE):TE:=fun σ H Q=>ta σ H fun x H1=>∃ c,x=.bl c∧if c=true then Q (.bl true) H1 else tb σ H1 Q
def tNotV (ta:TE):TE:=fun σ H Q=>ta σ H fun x H1=>∃ c,x=.bl c∧Q (.bl (!c)) H1
theorem j23 {op}{t:TE} (h:PE X a t):PE X (.BoolOp op [a] pos) t:=fun pins s σ H Q I hw=>BoolOp_one (h pins s σ H Q I hw)
theorem j1p (ha:PE X a ta) (hb:PE X (.BoolOp .And (b :: rest) pos) tb):PE X (.BoolOp .And (a :: b :: rest) pos) (tAndV ta tb):=by
 intro pins s σ H Q I h
 refine BoolOp_and (thn (ha pins s σ H _ I h) fun v s1 ⟨x,H1,I1,r1,q1⟩=>?_)
 obtain⟨c,rfl,q1⟩:=q1
 cases r1
 refine wpAny_truthy_bool ?_
 cases c with
 | true=>exact hb pins s1 σ H1 Q I1 q1
 | false=>exact⟨.bl false,H1,I1,rfl,q1⟩
theorem pe_or (ha:PE X a ta) (hb:PE X (.BoolOp .Or (b :: rest) pos) tb):PE X (.BoolOp .Or (a :: b :: rest) pos) (tOrV ta tb):=by
 intro pins s σ H Q I h
 refine BoolOp_or (thn (ha pins s σ H _ I h) fun v s1 ⟨x,H1,I1,r1,q1⟩=>?_)
 obtain⟨c,rfl,q1⟩:=q1
 cases r1
 refine wpAny_truthy_bool ?_
 cases c with
 | false=>exact hb pins s1 σ H1 Q I1 q1
 | true=>exact⟨.bl true,H1,I1,rfl,q1⟩
theorem jfn (ha:PE X a ta):PE X (.UnaryOp .Not a pos) (tNotV ta):=by
 intro pins s σ H Q I h
 refine UnaryOp_ (thn (ha pins s σ H _ I h) fun v s1 ⟨x,H1,I1,r1,q1⟩=>?_)
 obtain⟨c,rfl,q1⟩:=q1
 cases r1
 exact not_of (wpAny_truthy_bool ⟨.bl (!c),H1,I1,rfl,q1⟩)
def tIf (t:TT) (ta tb:TE):TE:=fun σ H Q=>t σ H fun c H1=>if c=true then ta σ H1 Q else tb σ H1 Q
theorem j6c {c:Expr} (hc:PT X c tA) (ha:PE X a ta) (hb:PE X b tb):PE X (.IfExp c a b pos) (tIf tA ta tb):=by
 intro pins s σ H Q I h
 refine wpAny_IfExp (thn (hc pins s σ H _ I h) fun d s1 ⟨H1,I1,q1⟩=>?_)
 cases d with
 | true=>exact ha pins s1 σ H1 Q I1 q1
 | false=>exact hb pins s1 σ H1 Q I1 q1
end
def SqL (K:PySem.W.Frag) (H:Hp) (a:Addr) (xs:List V):Prop :=
 Rd H a (.lst xs) ∨
  ∃ (o:Obj) (its:Array Value) (n:Nat),K.lookup a=some o∧o.cls=.type "list"∧o.dict=none∧o.data=.seq its n∧its.size≤sizeLine∧Vals xs its.toList
def SqT (K:PySem.W.Frag) (H:Hp) (a:Addr) (xs:List V):Prop :=
 Rd H a (.tup xs) ∨
  ∃ (o:Obj) (its:Array Value) (n:Nat),K.lookup a=some o∧o.cls=.type "tuple"∧o.data=.seq its n∧its.size≤sizeLine∧Vals xs its.toList
def absV:Value→Option V
 | .none=>some .non
 | .bool b=>some (.bl b)
 | .int i _=>some (.int i)
 | .str x _=>some (.str x)
 | .bytes b _=>some (.byt b)
 | .float b _=>some (.flt b)
 | .ref a=>some (.ref a)
 | .type n=>some (.ty n)
 | _=>none
theorem RelV.abs {x:V}{u:Value} (r:RelV x u):absV u=some x:=by
 cases x with
 | non=>cases r;rfl
 | bl _=>cases r;rfl
 | int _=>obtain⟨t,rfl⟩:=r;rfl
 | str _=>obtain⟨t,rfl⟩:=r;rfl
 | byt _=>obtain⟨t,rfl⟩:=r;rfl
 | flt _=>obtain⟨t,rfl⟩:=r;rfl
 | ref _=>cases r;rfl
 | ty _=>cases r;rfl
theorem RelV.inj {x y:V}{u:Value} (r:RelV x u) (q:RelV y u):x=y:=Option.some.inj (r.abs.symm.trans q.abs)
theorem Vals.inj:∀ {xs ys:List V}{us:List Value},Vals xs us→Vals ys us→xs=ys
 | _,_,_,.nil,.nil=>rfl
 | _,_,_,.cons r t,.cons r' t'=>by rw[r.inj r',Vals.inj t t']
section
variable {X:Cx}{pins:List (Addr × Obj)}{σ:St}{H:Hp}{s:Shared}{a:Addr}{xs ys:List V}
theorem SqL.of {K:PySem.W.Frag} (h:H a=some (.lst xs)):SqL K H a xs:=.inl (.inl h)
theorem SqT.of {K:PySem.W.Frag} (h:H a=some (.tup xs)):SqT K H a xs:=.inl (.inl h)
theorem Inv.list (I:Inv X pins σ H s) (h:SqL X.K H a xs):∃ its:List Value,Vals xs its∧PlainL s.heap a its.toArray∧xs.length≤sizeLine:=by
 rcases h with h | ⟨o,its,n,hk,hc,hd,hs,hz,r⟩
 ·obtain⟨z,its,n,r,e⟩:=h.ok I.hok
  exact⟨its,r,⟨_,n,e,rfl,rfl,rfl⟩,z⟩
 ·refine⟨its.toList,r,⟨o,n,I.kIn a o hk,hc,hd,by simpa using hs⟩,?_⟩
  have e:=r.length
  simp only[Array.length_toList] at e
  omega
theorem Inv.tuple (I:Inv X pins σ H s) (h:SqT X.K H a xs):∃ its:List Value,Vals xs its∧IsTup s.heap a its.toArray∧xs.length≤sizeLine:=by
 rcases h with h | ⟨o,its,n,hk,hc,hs,hz,r⟩
 ·obtain⟨z,its,r,p⟩:=h.ok I.hok
  exact⟨its,r,p.1,z⟩
 ·refine⟨its.toList,r,⟨o,I.kIn a o hk,hc,n,by simpa using hs⟩,?_⟩
  have e:=r.length
  simp only[Array.length_toList] at e
  omega
theorem Inv.list_inj (I:Inv X pins σ H s) (h:SqL X.K H a xs) (h':SqL X.K H a ys):xs=ys:=by
 obtain⟨its,r,⟨o,n,e,_,_,d⟩,_⟩:=I.list h
 obtain⟨its',r',⟨o',n',e',_,_,d'⟩,_⟩:=I.list h'
 rw[e] at e';cases e'
 rw[d] at d'
 injection d' with d1 _
 have:its=its':=by simpa using congrArg Array.toList d1
 subst this
 exact r.inj r'
theorem Inv.tuple_inj (I:Inv X pins σ H s) (h:SqT X.K H a xs) (h':SqT X.K H a ys):xs=ys:=by
 obtain⟨its,r,⟨o,e,_,n,d⟩,_⟩:=I.tuple h
 obtain⟨its',r',⟨o',e',_,n',d'⟩,_⟩:=I.tuple h'
 rw[e] at e';cases e'
 rw[d] at d'
 injection d' with d1 _
 have:its=its':=by simpa using congrArg Array.toList d1
 subst this
 exact r.inj r'
end
abbrev Cx.wish (X:Cx) (E:Value→Shared→Prop):Cx:={ X with xe:=E }
abbrev Cx.nox (X:Cx):Cx:=X.wish fun _ _=>False
theorem Cx.Ok.wish {X:Cx} (ok:X.Ok) (E:Value→Shared→Prop):(X.wish E).Ok :=
 ⟨ok.mod,ok.kind,ok.glob,ok.blt,ok.above,ok.inj,ok.has,ok.cab,ok.hd,ok.frames,ok.stk,ok.exf,ok.bs,ok.bsz,ok.noex,ok.exfs,ok.funs,ok.frf⟩
theorem Cx.Ok.unwish {X:Cx}{E:Value→Shared→Prop} (ok:(X.wish E).Ok):X.Ok :=
 ⟨ok.mod,ok.kind,ok.glob,ok.blt,ok.above,ok.inj,ok.has,ok.cab,ok.hd,ok.frames,ok.stk,ok.exf,ok.bs,ok.bsz,ok.noex,ok.exfs,ok.funs,ok.frf⟩
section
variable {X:Cx}{pins:List (Addr × Obj)}{σ:St}{H:Hp}{s:Shared}{E:Value→Shared→Prop}
theorem Inv.wish (I:Inv X pins σ H s) (E:Value→Shared→Prop):Inv (X.wish E) pins σ H s:=⟨I.ok.wish E,I.os,I.bare,I.base,I.loc,I.cell,I.free,I.freeC,I.pin,I.hok,I.len⟩
theorem Inv.unwish (I:Inv (X.wish E) pins σ H s):Inv X pins σ H s:=⟨I.ok.unwish,I.os,I.bare,I.base,I.loc,I.cell,I.free,I.freeC,I.pin,I.hok,I.len⟩
theorem SP.unwish {D:Ends}{f:Flow}{s':Shared} (h:SP (X.wish E) pins D f s'):SP X pins D f s':=by
 cases f with
 | next=>obtain⟨σ',H',I,q⟩:=h;exact⟨σ',H',I.unwish,q⟩
 | brk=>obtain⟨σ',H',I,q⟩:=h;exact⟨σ',H',I.unwish,q⟩
 | cont=>obtain⟨σ',H',I,q⟩:=h;exact⟨σ',H',I.unwish,q⟩
 | ret u=>obtain⟨v,σ',H',I,r,q⟩:=h;exact⟨v,σ',H',I.unwish,r,q⟩
theorem PSs.nox {st:List Stmt}{t:TS} (h:PSs X.nox st t):PSs X st t:=fun pins s σ H D I hw =>
 wpAny_mono (h pins s σ H D (I.wish _) hw) (fun _ _ q=>q.unwish) fun _ _ z=>False.elim z
end
section
variable {X:Cx}{st:Stmt}{rest:List Stmt}{t u:TS}{e:Expr}{te:TE}{pos:Pos}
def tNext:TS:=fun D σ H=>D.nx σ H
def tSeq (t u:TS):TS:=fun D σ H=>t { D with nx:=u D } σ H
theorem j0d:PSs X [] tNext:=fun _ _ σ H _ I h=>wpAny_execs_nil ⟨σ,H,I,h⟩
theorem j02 (h1:PS X st t) (h2:PSs X rest u):PSs X (st :: rest) (tSeq t u):=by
 intro pins s σ H D I h
 refine wpAny_execs_cons (thn (h1 pins s σ H { D with nx:=u D } I h) fun f s1 q=>?_)
 cases f with
 | next =>
  obtain⟨σ',H',I',q⟩:=q
  exact h2 pins s1 σ' H' D I' q
 | ret v=>exact q
 | brk=>exact q
 | cont=>exact q
theorem j03 (h1:PS X st t):PSs X [st] t:=by
 intro pins s σ H D I h
 refine wpAny_execs_cons (thn (h1 pins s σ H D I h) fun f s1 q=>?_)
 cases f with
 | next=>exact wpAny_execs_nil q
 | ret v=>exact q
 | brk=>exact q
 | cont=>exact q
theorem Inv.quiet {pins:List (Addr × Obj)}{σ:St}{H:Hp}{s:Shared} (I:Inv X pins σ H s):interactive X.env=false:=by simp[interactive,I.ok.kind]
def jiy (te:TE):TS:=fun D σ H=>te σ H fun _ H1=>D.nx σ H1
theorem j2i (he:PE X e te) (hs:swapsWith e none pos.line X.env=pure false:=by rfl):PS X (.Expr e pos) (jiy te):=by
 intro pins s σ H D I h
 exact wpAny_Expr_any (thn (he pins s σ H _ I h) fun v s1 ⟨x,H1,I1,r1,q1⟩=>⟨σ,H1,I1,q1⟩) I.quiet hs
def tRet (te:TE):TS:=fun D σ H=>te σ H D.rt
theorem j0c (he:PE X e te):PS X (.Return (some e) pos) (tRet te):=by
 intro pins s σ H D I h
 exact wpAny_Return_some (thn (he pins s σ H _ I h) fun v s1 ⟨x,H1,I1,r1,q1⟩=>⟨x,σ,H1,I1,r1,q1⟩)
def tIfS (c:TT) (t u:TS):TS:=fun D σ H=>c σ H fun b H1=>if b=true then t D σ H1 else u D σ H1
theorem j12 {c:Expr}{a b:List Stmt}{tc:TT} (hc:PT X c tc) (ha:PSs X a t) (hb:PSs X b u):PS X (.If c a b pos) (tIfS tc t u):=by
 intro pins s σ H D I h
 refine wpAny_If (thn (hc pins s σ H _ I h) fun d s1 ⟨H1,I1,q1⟩=>?_)
 cases d with
 | true=>exact ha pins s1 σ H1 D I1 q1
 | false=>exact hb pins s1 σ H1 D I1 q1
def tNever:TS:=fun _ _ _=>False
theorem j4l:PS X st tNever:=fun _ _ _ _ _ _ h=>h.elim
end
abbrev TG:=V→St→Hp→(St→Hp→Prop)→Prop
abbrev TGs:=List V→St→Hp→(St→Hp→Prop)→Prop
def PG (X:Cx) (target:Expr) (t:TG):Prop :=
 ∀ (pins:List (Addr × Obj)) (s:Shared) (σ:St) (H:Hp) (v:V) (u:Value) (Q:St→Hp→Prop),Inv X pins σ H s→RelV v u→t v σ H Q →
  wpAny (model X.prog X.w) X.A (assign target X.env u) (fun _ s'=>∃ σ' H',Inv X pins σ' H' s'∧Q σ' H') X.xe s
def PGs (X:Cx) (ts:List Expr) (t:TGs):Prop :=
 ∀ (pins:List (Addr × Obj)) (s:Shared) (σ:St) (H:Hp) (vs:List V) (us:List Value) (Q:St→Hp→Prop),Inv X pins σ H s→Vals vs us→t vs σ H Q →
  wpAny (model X.prog X.w) X.A (assignInOrder ((assignEach ts X.env).map (·.2)) us) (fun _ s'=>∃ σ' H',Inv X pins σ' H' s'∧Q σ' H') X.xe s
section
variable {X:Cx}{pos:Pos}
def j7a (i:Nat):TG:=fun v σ H Q=>Q (σ.set i (some v)) H
theorem j0p {i:Nat}{x:Str} (hN:X.N.Nodup) (hi:X.N[i]?=some x) (hx:Loc X.env.scope x) (hf:X.fn x=true∨X.env.scope.names.lookup x=some .local:=by first | exact .inl rfl | exact .inr rfl | assumption):PG X (.Name x pos) (j7a i):=by
 intro pins s σ H v u Q I r h
 exact wpAny_assign_Name (j4k I hN hi hx r (fun s' I'=>⟨_,H,I',h⟩) hf)
def gNil:TGs:=fun vs σ H Q=>vs=[]∧Q σ H
def jik (t:TG) (u:TGs):TGs:=fun vs σ H Q=>∃ v r,vs=v :: r∧t v σ H fun σ' H'=>u r σ' H' Q
theorem j5b:PGs X [] gNil:=by
 intro pins s σ H vs us Q I r h
 obtain⟨e,h⟩:=h
 subst e
 cases r
 exact assignInOrder_nil ⟨σ,H,I,h⟩
theorem j1n {e:Expr}{es:List Expr}{t:TG}{u:TGs} (h1:PG X e t) (h2:PGs X es u)
  (hs:(assignEach (e :: es) X.env).map (·.2)=assign e X.env :: (assignEach es X.env).map (·.2):=by rfl):PGs X (e :: es) (jik t u):=by
 intro pins s σ H vs us Q I r h
 obtain⟨v,vr,e1,h⟩:=h
 subst e1
 cases r with
 | cons r rr =>
  rw[hs]
  refine assignInOrder_cons (thn (h1 pins s σ H _ _ _ I r h) fun _ s1 ⟨σ1,H1,I1,q1⟩=>?_)
  exact h2 pins s1 σ1 H1 _ _ Q I1 rr q1
def gTup (K:PySem.W.Frag) (n:Nat) (t:TGs):TG:=fun v σ H Q=>∃ a xs,v=.ref a∧SqT K H a xs∧xs.length=n∧t xs σ H Q
theorem j8w {es:List Expr}{k:Nat}{t:TGs}{n:Nat} (hc:X.calm=true) (h:PGs X es t)
  (hn:(assignEach es X.env).length=n:=by rfl) (hst:(assignEach es X.env).findIdx? (·.1)=none:=by rfl):PG X (.Tuple es k pos) (gTup X.K n t):=by
 intro pins s σ H v u Q I r hw
 obtain⟨a,xs,e1,hq,hl,hw⟩:=hw
 subst e1
 cases r
 obtain⟨its,rv,ht,hz⟩:=I.tuple hq
 refine assign_Tuple_tuple (I.ok.hd hc) ht (by simp[hn,← hl,rv.length]) hst fun h' hx=>?_
 have I1:Inv X pins σ H { s with heap:=h' }:=I.kept (t':=s.toks) fun b o e=>hx b o (Nat.ne_of_lt (Heap.lt_size e)) e
 exact h pins _ σ H xs _ Q I1 (by simpa using rv) hw
def tAsg (te:TE) (g:TG):TS:=fun D σ H=>te σ H fun x H1=>g x σ H1 D.nx
theorem jfo {tg e:Expr}{te:TE}{g:TG} (he:PE X e te) (hg:PG X tg g) (hs:swapsWithSole [tg] e pos.line X.env=pure false:=by rfl) (hw:swappedStores [tg] e X.env=pure none:=by rfl)
  (h1:(assignEach [tg] X.env).map (·.2)=[assign tg X.env]:=by rfl):PS X (.Assign [tg] e pos) (tAsg te g):=by
 intro pins s σ H D I h
 refine wpAny_Assign_stores (thn (he pins s σ H _ I h) fun v s1 ⟨x,H1,I1,r1,q1⟩=>?_) hs hw
 rw[h1]
 exact thn (hg pins s1 σ H1 x v _ I1 r1 q1) fun _ s2 q=>q
theorem j0l {i:Nat}{x:Str}{e:Expr}{te:TE}{pos':Pos} (hN:X.N.Nodup) (hi:X.N[i]?=some x) (hx:Loc X.env.scope x) (he:PE X e te) (hs:swapsWith e (some (.Name x pos')) pos.line X.env=pure false:=by rfl) (hf:X.fn x=true∨X.env.scope.names.lookup x=some .local:=by first | exact .inl rfl | exact .inr rfl | assumption) :
  PS X (.Assign [.Name x pos'] e pos) (tAsg te (j7a i)):=by
 intro pins s σ H D I h
 refine wpAny_Assign_Name (thn (he pins s σ H _ I h) fun v s1 ⟨y,H1,I1,r1,q1⟩=>?_) hs
 exact j4k I1 hN hi hx r1 (fun s2 I2=>⟨_,H1,I2,q1⟩) hf
end
structure It where
 go:Nat→Hp→Prop
 yld:Nat→Hp→V→Hp→Prop
 stop:Nat→Hp→Prop
def FpOk (X:Cx) (pins:List (Addr × Obj)) (H:Hp) (b:Addr):Prop :=
 H b=none∧b≠X.env.locals∧b∉X.fs∧(b∈X.ex∨X.s₀.heap.objs.size≤b)∧(∀ x c,X.env.cells.lookup x=some c→c≠b)∧∀ p∈X.pn++pins,p.1≠b
theorem Inv.fpOk {X:Cx}{pins:List (Addr × Obj)}{σ:St}{H H':Hp}{s:Shared}{b:Addr} (I:Inv X pins σ H s) (hb:s.heap.objs.size≤b) (hn:H' b=none):FpOk X pins H' b:=by
 refine⟨hn,Nat.ne_of_gt (Nat.lt_of_lt_of_le I.lt hb),I.nofs hb,.inr (Nat.le_trans I.sz hb),fun x c e z=>?_,fun p hp z=>?_⟩
 ·obtain⟨v,q⟩:=I.cell x c e
  exact absurd (Nat.lt_of_lt_of_le q.lt (by rw[z];exact hb)) (Nat.lt_irrefl _)
 ·exact absurd (Nat.lt_of_lt_of_le (Heap.lt_size (I.pin p hp).1) (by rw[z];exact hb)) (Nat.lt_irrefl _)
structure Turn (P:Program) (w:World) (K:PySem.W.Frag) (tg:Expr) (J:It) (fp:List Addr) (it:Addr) (tn:Nat→Heap→Prop):Prop where
 mem:it∈fp
 obj:∀ i h,tn i h→∀ b∈fp,∃ o,h.get? b=some o∧∀ v,o.data≠.cell v
 keep:∀ i h h',tn i h→(∀ b∈fp,∀ o,h.get? b=some o→h'.get? b=some o)→tn i h'
 item:∀ (X:Cx),X.prog=P→X.w=w→X.K=K→X.calm=true→∀ (i:Nat) (pins:List (Addr × Obj)) (s:Shared) (σ:St) (H:Hp) (E:Value→Shared→Prop),Inv X pins σ H s→(∀ b∈fp,FpOk X pins H b)→tn i s.heap→J.go i H →
  wpAny (model P w) X.A (pyNext (.ref it)) (fun r s1=>∃ u,r=some u ∧
   wpAny (model P w) X.A (letOwnedTupleGo tg (.ref it) u) (fun _ s2=>∃ x H',Inv X pins σ H' s2∧RelV x u∧J.yld i H x H'∧tn (i+1) s2.heap∧∀ b∈fp,H' b=none) E s1) E s
 done:∀ (X:Cx),X.prog=P→X.w=w→X.K=K→X.calm=true→∀ (i:Nat) (pins:List (Addr × Obj)) (s:Shared) (σ:St) (H:Hp) (E:Value→Shared→Prop),Inv X pins σ H s→(∀ b∈fp,FpOk X pins H b)→tn i s.heap→J.stop i H →
  wpAny (model P w) X.A (pyNext (.ref it)) (fun r s1=>r=none∧Inv X pins σ H s1) E s
 self:∀ (A:Around) (i:Nat) (s:Shared) (Q:Value→Shared→Prop) (E:Value→Shared→Prop),tn i s.heap→Q (.ref it) s→wpAny (model P w) A (pyIter (.ref it)) Q E s
abbrev TI:=St→Hp→(It→Hp→Prop)→Prop
def PIE (X:Cx) (pins:List (Addr × Obj)) (σ:St) (tg:Expr) (R:It→Hp→Prop) (itv:Value) (s2:Shared):Prop :=
 ∃ (it:Addr) (fp:List Addr) (tn:Nat→Heap→Prop) (J:It) (H':Hp),itv=.ref it∧Inv X pins σ H' s2∧Turn X.prog X.w X.K tg J fp it tn∧tn 0 s2.heap∧(∀ b∈fp,FpOk X pins H' b)∧R J H'
def PI (X:Cx) (tg iter:Expr) (wi:TI):Prop :=
 ∀ (pins:List (Addr × Obj)) (s:Shared) (σ:St) (H:Hp) (R:It→Hp→Prop),Inv X pins σ H s→wi σ H R →
  wpAny (model X.prog X.w) X.A (eval iter X.env) (fun v s1=>wpAny (model X.prog X.w) X.A (pyIter v) (PIE X pins σ tg R) X.xe s1) X.xe s
theorem jil {M:Model}{A:Around}{E:Value→Shared→Prop}{s:Shared}{tg:Expr}{it:Addr}{u:Value}{o:Obj}{n:String}{vs:Array Value}{Q:Unit→Shared→Prop} (ho:s.heap.get? it=some o) (hc:o.cls=.type n) (hd:o.data=.fields vs)
  (hn:["enumerate","zip","dict_itemiterator","dict_reverseitemiterator","odict_iterator","itertools.zip_longest","itertools.pairwise"].contains n=false) (hQ:Q () s):wpAny M A (letOwnedTupleGo tg (.ref it) u) Q E s:=by
 unfold letOwnedTupleGo
 cases tg <;> first
  | exact wpAny_pure hQ
  | (cases u <;> first
    | exact wpAny_pure hQ
    | (refine wpAny_bind (wpAny_load ho ?_)
       rw[hc,hd]
       show wpAny M A (if (["enumerate","zip","dict_itemiterator","dict_reverseitemiterator","odict_iterator","itertools.zip_longest","itertools.pairwise"].contains n && vs[0]? == some (rawInt _))=true then _ else _) Q E s
       rw[if_neg (by intro h;rw[hn,Bool.false_and] at h;cases h)]
       exact wpAny_pure hQ))
def Itl (K:PySem.W.Frag) (a:Addr):It :=
 ⟨fun i H=>∃ xs x,SqL K H a xs∧xs[i]?=some x,fun i H x H'=>H'=H∧∀ xs,SqL K H a xs→xs[i]?=some x,fun i H=>∃ xs,SqL K H a xs∧xs.length≤i⟩
def Itt (K:PySem.W.Frag) (a:Addr):It :=
 ⟨fun i H=>∃ xs x,SqT K H a xs∧xs[i]?=some x,fun i H x H'=>H'=H∧∀ xs,SqT K H a xs→xs[i]?=some x,fun i H=>∃ xs,SqT K H a xs∧xs.length≤i⟩
def Itr (lo:Int) (n:Nat):It:=⟨fun i _=>i < n,fun i H x H'=>H'=H∧x=.int (lo+i),fun i _=>n≤i⟩
theorem jb6 {P:Program}{w:World}{K:PySem.W.Frag}{tg:Expr} (a it:Addr):Turn P w K tg (Itl K a) [it] it (fun i h=>h.IsListIter it a i) where
 mem:=by simp
 obj:=fun i h st b hb=>by
  have e:b=it:=by simpa using hb
  subst e
  obtain⟨o,e,c,d⟩:=st
  exact⟨o,e,fun v z=>by rw[d] at z;cases z⟩
 keep:=fun i h h' st k=>st.at fun o e=>k it (by simp) o e
 item:=by
  intro X hP hw hK hc i pins s σ H E I hf st hg
  subst hP hw hK
  obtain⟨xs,x,hq,hx⟩:=hg
  obtain⟨its,rv,p,hz⟩:=I.list hq
  obtain⟨u,hu,ru⟩:=rv.get hx
  obtain⟨f0,f1,f2,f3,f4,f5⟩:=hf it (by simp)
  refine wpAny_pyNext_list_item st p.isList (x:=u) (by simpa using hu) fun h' st' sb=>?_
  have I1:Inv X pins σ H { s with heap:=h' }:=I.turned (t':=s.toks) (fun b o hb e=>(sb.2 b hb).trans e) f0 f1 f3 f4 f5
  obtain⟨o,e,c,d⟩:=id st'
  exact⟨u,rfl,jil (s:={ s with heap:=h' }) e c d (by decide) ⟨x,H,I1,ru,⟨rfl,fun ys hy=>by rw[I.list_inj hy hq];exact hx⟩,st',fun b hb=>(hf b hb).1⟩⟩
 done:=by
  intro X hP hw hK hc i pins s σ H E I hf st hg
  subst hP hw hK
  obtain⟨xs,hq,hx⟩:=hg
  obtain⟨its,rv,p,hz⟩:=I.list hq
  obtain⟨f0,f1,f2,f3,f4,f5⟩:=hf it (by simp)
  have hl:=rv.length
  exact wpAny_pyNext_list_end (I.ok.hd hc) st p.isList (by simp;omega) fun h' eb=>⟨rfl,I.turned (t':=s.toks) (fun b o hb e=>eb b o hb e) f0 f1 f3 f4 f5⟩
 self:=fun _ _ _ _ _ st h=>wpAny_pyIter_listiter st h
theorem j8x {P:Program}{w:World}{K:PySem.W.Frag}{tg:Expr} (a it:Addr):Turn P w K tg (Itt K a) [it] it (fun i h=>h.IsTupleIter it a i) where
 mem:=by simp
 obj:=fun i h st b hb=>by
  have e:b=it:=by simpa using hb
  subst e
  obtain⟨o,e,c,d⟩:=st
  exact⟨o,e,fun v z=>by rw[d] at z;cases z⟩
 keep:=fun i h h' st k=>st.at fun o e=>k it (by simp) o e
 item:=by
  intro X hP hw hK hc i pins s σ H E I hf st hg
  subst hP hw hK
  obtain⟨xs,x,hq,hx⟩:=hg
  obtain⟨its,rv,p,hz⟩:=I.tuple hq
  obtain⟨u,hu,ru⟩:=rv.get hx
  obtain⟨f0,f1,f2,f3,f4,f5⟩:=hf it (by simp)
  refine wpAny_pyNext_tuple_item st (show s.heap.IsTuple a its.toArray from p) (x:=u) (by simpa using hu) fun h' st' sb=>?_
  have I1:Inv X pins σ H { s with heap:=h' }:=I.turned (t':=s.toks) (fun b o hb e=>(sb.2 b hb).trans e) f0 f1 f3 f4 f5
  obtain⟨o,e,c,d⟩:=id st'
  exact⟨u,rfl,jil (s:={ s with heap:=h' }) e c d (by decide) ⟨x,H,I1,ru,⟨rfl,fun ys hy=>by rw[I.tuple_inj hy hq];exact hx⟩,st',fun b hb=>(hf b hb).1⟩⟩
 done:=by
  intro X hP hw hK hc i pins s σ H E I hf st hg
  subst hP hw hK
  obtain⟨xs,hq,hx⟩:=hg
  obtain⟨its,rv,p,hz⟩:=I.tuple hq
  obtain⟨f0,f1,f2,f3,f4,f5⟩:=hf it (by simp)
  have hl:=rv.length
  exact wpAny_pyNext_tuple_end (I.ok.hd hc) st (show s.heap.IsTuple a its.toArray from p) (by simp;omega) fun h' eb=>⟨rfl,I.turned (t':=s.toks) (fun b o hb e=>eb b o hb e) f0 f1 f3 f4 f5⟩
 self:=fun _ _ _ _ _ st h=>wpAny_pyIter_tupleiter st h
theorem j8y {P:Program}{w:World}{K:PySem.W.Frag}{tg:Expr} (it:Addr) (lo:Int) (n:Nat):Turn P w K tg (Itr lo n) [it] it (fun i h=>IsRangeIter h it (lo+(i:Nat) * 1) ((n:Int)-(i:Nat)) 1) where
 mem:=by simp
 obj:=fun i h st b hb=>by
  have e:b=it:=by simpa using hb
  subst e
  exact⟨_,st,fun v z=>by
   have z':Data.fields _=Data.cell v:=z
   cases z'⟩
 keep:=fun i h h' st k=>k it (by simp) _ st
 item:=by
  intro X hP hw hK hc i pins s σ H E I hf st hg
  subst hP hw hK
  obtain⟨f0,f1,f2,f3,f4,f5⟩:=hf it (by simp)
  have W:=Walks.range (prog:=X.prog) (w:=X.w) (I.ok.hd hc) it lo 1 n
  refine W.item i s _ _ hg st fun v h' tk hv st' kk=>?_
  obtain⟨t,rfl⟩:=hv
  have I1:Inv X pins σ H { s with heap:=h',toks:=tk }:=I.turned (fun b o hb e=>kk b o (by simpa using hb) e) f0 f1 f3 f4 f5
  refine⟨_,rfl,jil (s:={ s with heap:=h',toks:=tk }) (n:="range_iterator") st' rfl rfl (by decide) ⟨.int (lo+i),H,I1,⟨t,?_⟩,⟨rfl,rfl⟩,st',fun b hb=>(hf b hb).1⟩⟩
  rw[Int.mul_one]
 done:=by
  intro X hP hw hK hc i pins s σ H E I hf st hg
  subst hP hw hK
  obtain⟨f0,f1,f2,f3,f4,f5⟩:=hf it (by simp)
  exact wpAny_pyNext_range_end (I.ok.hd hc) st (by have:n≤i:=hg;omega) fun h' eb=>⟨rfl,I.turned (t':=s.toks) (fun b o hb e=>eb b o hb e) f0 f1 f3 f4 f5⟩
 self:=fun _ _ _ _ _ st h=>wpAny_pyIter_rangeiter st h
section
variable {X:Cx}{tg:Expr}
def iList (K:PySem.W.Frag) (tl:TE):TI:=fun σ H R=>tl σ H fun x H1=>∃ a,x=.ref a∧(∃ xs,SqL K H1 a xs)∧R (Itl K a) H1
def iTup (K:PySem.W.Frag) (tl:TE):TI:=fun σ H R=>tl σ H fun x H1=>∃ a,x=.ref a∧(∃ xs,SqT K H1 a xs)∧R (Itt K a) H1
theorem j5c {l:Expr}{tl:TE} (hl:PE X l tl):PI X tg l (iList X.K tl):=by
 intro pins s σ H R I h
 refine thn (hl pins s σ H _ I h) fun v s1 ⟨x,H1,I1,r1,q1⟩=>?_
 obtain⟨a,e,⟨xs,hq⟩,q⟩:=q1
 subst e
 cases r1
 obtain⟨its,rv,p,hz⟩:=I1.list hq
 refine wpAny_pyIter_list p.isList ?_
 refine⟨s1.heap.objs.size,[s1.heap.objs.size],_,_,H1,rfl,I1.kept (t':=s1.toks) fun b o e=>Heap.get?_push_of_some _ e,jb6 a _,⟨_,Heap.get?_push_size _ rfl,rfl,rfl⟩,fun b hb=>?_,q⟩
 have e:b=s1.heap.objs.size:=by simpa using hb
 subst e
 exact I1.fpOk (Nat.le_refl _) (I1.hok.fresh (Nat.le_refl _))
theorem j8z {l:Expr}{tl:TE} (hl:PE X l tl):PI X tg l (iTup X.K tl):=by
 intro pins s σ H R I h
 refine thn (hl pins s σ H _ I h) fun v s1 ⟨x,H1,I1,r1,q1⟩=>?_
 obtain⟨a,e,⟨xs,hq⟩,q⟩:=q1
 subst e
 cases r1
 obtain⟨its,rv,p,hz⟩:=I1.tuple hq
 refine wpAny_pyIter_tuple (show s1.heap.IsTuple a its.toArray from p) ?_
 refine⟨s1.heap.objs.size,[s1.heap.objs.size],_,_,H1,rfl,I1.kept (t':=s1.toks) fun b o e=>Heap.get?_push_of_some _ e,j8x a _,⟨_,Heap.get?_push_size _ rfl,rfl,rfl⟩,fun b hb=>?_,q⟩
 have e:b=s1.heap.objs.size:=by simpa using hb
 subst e
 exact I1.fpOk (Nat.le_refl _) (I1.hok.fresh (Nat.le_refl _))
theorem jdq {pins:List (Addr × Obj)}{σ:St}{H:Hp}{s:Shared}{R:It→Hp→Prop}{E:Value→Shared→Prop}{lo hi:Int}{t u v:Tok}{tk:Nat} (I:Inv X pins σ H s) (h1:-(2 ^ 62)≤lo) (h2:lo < 2 ^ 62) (h3:-(2 ^ 62)≤hi) (h4:hi < 2 ^ 62)
  (q:R (Itr lo (hi-lo).toNat) H):wpAny (model X.prog X.w) X.A (pyIter (.ref s.heap.objs.size)) (PIE X pins σ tg R) E { s with heap:=s.heap.push { cls:=.type "range",data:=.fields #[.int lo t,.int hi u,.int 1 v] },toks:=tk }:=by
 refine wpAny_pyIter_range (IsRange.new ..) (small_one h1 h2 h3 h4) ?_
 have I1:Inv X pins σ H { s with heap:=s.heap.push { cls:=.type "range",data:=.fields #[.int lo t,.int hi u,.int 1 v] },toks:=tk }:=I.kept fun b o e=>Heap.get?_push_of_some _ e
 refine⟨(s.heap.push { cls:=.type "range",data:=.fields #[.int lo t,.int hi u,.int 1 v] }).objs.size,[(s.heap.push { cls:=.type "range",data:=.fields #[.int lo t,.int hi u,.int 1 v] }).objs.size],_,_,H,rfl,
  I1.kept (t':=tk) fun b o e=>Heap.get?_push_of_some _ e,j8y _ lo (hi-lo).toNat,?_,fun b hb=>?_,q⟩
 ·have e1:lo+((0:Nat):Int) * 1=lo:=by simp
  have e2:(((hi-lo).toNat:Nat):Int)-((0:Nat):Int)=Builtin.Range.rangeSize lo hi 1:=by rw[rangeSize_one];split <;> omega
  show IsRangeIter _ _ (lo+((0:Nat):Int) * 1) ((((hi-lo).toNat:Nat):Int)-((0:Nat):Int)) 1
  rw[e1,e2]
  exact Heap.get?_push_size _ rfl
 ·have e:b=(s.heap.push { cls:=.type "range",data:=.fields #[.int lo t,.int hi u,.int 1 v] }).objs.size:=by simpa using hb
  subst e
  exact I1.fpOk (Nat.le_refl _) (I1.hok.fresh (Nat.le_refl _))
def iRng1 (ta:TA):TI:=fun σ H R=>ta σ H fun vs H1=>∃ j:Int,vs=[.int j]∧-(2 ^ 62)≤j∧j < 2 ^ 62∧R (Itr 0 j.toNat) H1
theorem j1u {a:Expr}{ta:TA}{p pos:Pos} (hg:Gl X "range") (hm:X.mg "range"=none) (ha:PA X [a] ta) (hs:starEach [a] X.env=[(false,eval a X.env)]:=by rfl):PI X tg (.Call (.Name "range" p) [a] [] pos) (iRng1 ta):=by
 intro pins s σ H R I h
 refine Call_ (j5a I hg hm boot_range (PyProof.Rows.callWith_type1 (thn (ha pos pins s σ H _ I h) fun us s1 ⟨vs,H1,I1,r1,q1⟩=>?_) hs rfl))
 obtain⟨j,e,q1,q2,q⟩:=q1
 subst e
 cases r1 with
 | cons r rr =>
  cases rr
  obtain⟨t,rfl⟩:=r
  exact call_range_1 (jdq I1 (by omega) (by omega) q1 q2 (by simpa using q))
def tFor (wi:TI) (g:TG) (tb:TS):TS:=fun D σ H=>wi σ H fun J H1=>∃ W:Nat→Nat→St→Hp→Prop,(∃ m,W 0 m σ H1)∧∀ i m σ H,W i m σ H →
 (J.stop i H∧D.nx σ H)∨(J.go i H∧∃ N:St→Hp→Prop,(∀ σ' H',N σ' H'→∃ m',m' < m∧W (i+1) m' σ' H')∧∀ x H',J.yld i H x H'→g x σ H' fun σ2 H2=>tb { D with nx:=N,ct:=N,bk:=D.nx } σ2 H2)
def j90 (fp:List Addr) (h:Heap):List (Addr × Obj):=fp.filterMap fun b=>(h.get? b).map fun o=>(b,o)
theorem j2j {fp:List Addr}{h:Heap}{b:Addr}{o:Obj} (hb:b∈fp) (e:h.get? b=some o):(b,o)∈j90 fp h:=List.mem_filterMap.mpr ⟨b,hb,by rw[e];rfl⟩
theorem jb7 {fp:List Addr}{h:Heap}{p:Addr × Obj} (hp:p∈j90 fp h):p.1∈fp∧h.get? p.1=some p.2:=by
 obtain⟨b,hb,e⟩:=List.mem_filterMap.mp hp
 cases q:h.get? b with
 | none=>rw[q] at e;cases e
 | some o =>
  rw[q] at e
  have e':(b,o)=p:=Option.some.inj e
  subst e'
  exact⟨hb,q⟩
theorem Inv.pinned {pins:List (Addr × Obj)}{σ:St}{H:Hp}{s:Shared}{fp:List Addr} (I:Inv X pins σ H s) (hf:∀ b∈fp,FpOk X pins H b) (ho:∀ b∈fp,∃ o,s.heap.get? b=some o∧∀ v,o.data≠.cell v):Inv X (pins++j90 fp s.heap) σ H s :=
 I.pins_of fun p hp=>(List.mem_append.mp hp).elim (fun z=>I.pin p (List.mem_append_right _ z)) fun z=>by
  obtain⟨hb,e⟩:=jb7 z
  obtain⟨f0,f1,f2,_⟩:=hf p.1 hb
  obtain⟨o,e',d⟩:=ho p.1 hb
  rw[e] at e';cases e'
  exact⟨e,f0,f1,f2,d⟩
theorem Inv.unpinned {pins pl:List (Addr × Obj)}{σ:St}{H:Hp}{s:Shared} (I:Inv X (pins++pl) σ H s):Inv X pins σ H s:=I.pins_of fun p hp=>I.pin p (List.mem_append_right _ (List.mem_append_left _ hp))
theorem j86 {iter:Expr}{body:List Stmt}{wi:TI}{g:TG}{tb:TS}{pos:Pos} (hp:PassesOwn (model X.prog X.w) X.A X.env X.xe) (hc:X.calm=true) (hi:PI X tg iter wi) (hg:PG X tg g) (hb:PSs X body tb)
  (hs:∀ x,foldedSetIterable iter X.env x=pure x:=by intro _;rfl):PS X (.For tg iter body [] pos) (tFor wi g tb):=by
 intro pins s σ H D I h
 refine wpAny_For (thn (hi pins s σ H _ I h) fun v s1 h1=>thn h1 fun itv s2 h2=>?_) hs
 obtain⟨it,fp,tn,J,H2,e,I2,T,st2,f2,W,⟨m0,w0⟩,turn⟩:=h2
 subst e
 have stat:∀ {H':Hp},(∀ b∈fp,H' b=none)→∀ b∈fp,FpOk X pins H' b:=fun hn b hb=>⟨hn b hb,(f2 b hb).2⟩
 refine codeAny_forLoop_any (fun n s'=>∃ i σ' H',Inv X pins σ' H' s'∧tn i s'.heap∧(∀ b∈fp,H' b=none)∧W i n σ' H') ?_ m0 ⟨0,σ,H2,I2,st2,fun b hb=>(f2 b hb).1,w0⟩
 rintro n s3 ⟨i,σ3,H3,I3,st3,fr3,w3⟩
 rcases turn i n σ3 H3 w3 with⟨stop,qn⟩ | ⟨go,N,hN,step⟩
 ·refine wpAny_passesOwn hp (thn (T.done X rfl rfl rfl hc i pins s3 σ3 H3 X.xe I3 (stat fr3) st3 stop) fun r s4 ⟨hr,I4⟩=>?_)
  subst hr
  exact wpAny_execs_nil ⟨σ3,H3,I4,qn⟩
 ·refine wpAny_passesOwn hp (thn (T.item X rfl rfl rfl hc i pins s3 σ3 H3 X.xe I3 (stat fr3) st3 go) fun r s4 ⟨u,hr,h4⟩=>?_)
  subst hr
  refine wpAny_passesOwn hp (thn h4 fun _ s5 ⟨x,H5,I5,r5,y5,st5,fr5⟩=>?_)
  have I5':=I5.pinned (stat fr5) (T.obj _ _ st5)
  refine wpAny_passesOwn hp (thn (hg _ s5 σ3 H5 x u _ I5' r5 (step x H5 y5)) fun _ s6 ⟨σ6,H6,I6,q6⟩=>?_)
  refine wpAny_passesOwn hp (thn (hb _ s6 σ6 H6 _ I6 q6) fun f s7 q7=>?_)
  have again:∀ {σ7:St}{H7:Hp},Inv X (pins++j90 fp s5.heap) σ7 H7 s7→N σ7 H7→∃ m,m < n∧∃ i σ' H',Inv X pins σ' H' s7∧tn i s7.heap∧(∀ b∈fp,H' b=none)∧W i m σ' H':=fun {σ7 H7} I7 n7=>by
   obtain⟨m',hm,w7⟩:=hN σ7 H7 n7
   refine⟨m',hm,i+1,σ7,H7,I7.unpinned,T.keep _ _ _ st5 fun b hb o e=>(I7.pin (b,o) (List.mem_append_right _ (List.mem_append_right _ (j2j hb e)))).1,fun b hb=>?_,w7⟩
   obtain⟨o,e,d⟩:=T.obj _ _ st5 b hb
   exact (I7.pin (b,o) (List.mem_append_right _ (List.mem_append_right _ (j2j hb e)))).2.1
  cases f with
  | next=>obtain⟨σ7,H7,I7,n7⟩:=q7;exact again I7 n7
  | cont=>obtain⟨σ7,H7,I7,n7⟩:=q7;exact again I7 n7
  | brk=>obtain⟨σ7,H7,I7,q7⟩:=q7;exact⟨σ7,H7,I7.unpinned,q7⟩
  | ret v=>obtain⟨x7,σ7,H7,I7,r7,q7⟩:=q7;exact⟨x7,σ7,H7,I7.unpinned,r7,q7⟩
end
theorem j6d {K:PySem.W.Frag}{a:Addr}{xs:List V}{g:TG}{tb:TS}{D:Ends}{σ:St}{H:Hp} (Pv:Nat→St→Hp→Prop) (h0:Pv 0 σ H) (hl:∀ i σ H,i≤xs.length→Pv i σ H→SqL K H a xs)
  (hs:∀ i x σ H,xs[i]?=some x→Pv i σ H→g x σ H fun σ2 H2=>tb { D with nx:=Pv (i+1),ct:=Pv (i+1),bk:=D.nx } σ2 H2) (hd:∀ σ H,Pv xs.length σ H→D.nx σ H) :
  ∃ W:Nat→Nat→St→Hp→Prop,(∃ m,W 0 m σ H)∧∀ i m σ H,W i m σ H →
   ((Itl K a).stop i H∧D.nx σ H)∨((Itl K a).go i H∧∃ N:St→Hp→Prop,(∀ σ' H',N σ' H'→∃ m',m' < m∧W (i+1) m' σ' H')∧∀ x H',(Itl K a).yld i H x H'→g x σ H' fun σ2 H2=>tb { D with nx:=N,ct:=N,bk:=D.nx } σ2 H2):=by
 refine⟨fun i m σ H=>m=xs.length-i∧i≤xs.length∧Pv i σ H,⟨xs.length,by simp,Nat.zero_le _,h0⟩,?_⟩
 rintro i m σ H ⟨rfl,hi,p⟩
 have q:=hl i σ H hi p
 by_cases hlt:i < xs.length
 ·refine .inr ⟨⟨xs,xs[i],q,by simp[hlt]⟩,Pv (i+1),fun σ' H' p'=>⟨xs.length-(i+1),by omega,rfl,hlt,p'⟩,fun x H' y=>?_⟩
  obtain⟨e,y⟩:=y
  subst e
  exact hs i x σ _ (y xs q) p
 ·have e:i=xs.length:=by omega
  subst e
  exact .inl ⟨⟨xs,q,Nat.le_refl _⟩,hd σ H p⟩
theorem j7b {lo:Int}{n:Nat}{g:TG}{tb:TS}{D:Ends}{σ:St}{H:Hp} (Pv:Nat→St→Hp→Prop) (h0:Pv 0 σ H)
  (hs:∀ i σ H,i < n→Pv i σ H→g (.int (lo+i)) σ H fun σ2 H2=>tb { D with nx:=Pv (i+1),ct:=Pv (i+1),bk:=D.nx } σ2 H2) (hd:∀ σ H,Pv n σ H→D.nx σ H) :
  ∃ W:Nat→Nat→St→Hp→Prop,(∃ m,W 0 m σ H)∧∀ i m σ H,W i m σ H →
   ((Itr lo n).stop i H∧D.nx σ H)∨((Itr lo n).go i H∧∃ N:St→Hp→Prop,(∀ σ' H',N σ' H'→∃ m',m' < m∧W (i+1) m' σ' H')∧∀ x H',(Itr lo n).yld i H x H'→g x σ H' fun σ2 H2=>tb { D with nx:=N,ct:=N,bk:=D.nx } σ2 H2):=by
 refine⟨fun i m σ H=>m=n-i∧i≤n∧Pv i σ H,⟨n,by simp,Nat.zero_le _,h0⟩,?_⟩
 rintro i m σ H ⟨rfl,hi,p⟩
 by_cases hlt:i < n
 ·refine .inr ⟨hlt,Pv (i+1),fun σ' H' p'=>⟨n-(i+1),by omega,rfl,hlt,p'⟩,fun x H' y=>?_⟩
  obtain⟨e,y⟩:=y
  subst e y
  exact hs i σ _ hlt p
 ·have e:i=n:=by omega
  subst e
  exact .inl ⟨Nat.le_refl _,hd σ H p⟩
abbrev R2:=V→V→Hp→VK→Prop
def OpR (X:Cx) (f:Value→Value→Sem Value) (r:R2):Prop :=
 ∀ (pins:List (Addr × Obj)) (s:Shared) (σ:St) (H:Hp) (x y:V) (v u:Value) (Q:VK),Inv X pins σ H s→RelV x v→RelV y u→r x y H Q →
  wpAny (model X.prog X.w) X.A (f v u) (EP X pins σ Q) X.xe s
def UnR (X:Cx) (f:Value→Sem Value) (r:V→Hp→VK→Prop):Prop :=
 ∀ (pins:List (Addr × Obj)) (s:Shared) (σ:St) (H:Hp) (x:V) (v:Value) (Q:VK),Inv X pins σ H s→RelV x v→r x H Q →
  wpAny (model X.prog X.w) X.A (f v) (EP X pins σ Q) X.xe s
def CallR (X:Cx) (f:Value) (r:List V→Hp→VK→Prop):Prop :=
 ∀ (pins:List (Addr × Obj)) (s:Shared) (σ:St) (H:Hp) (xs:List V) (us:List Value) (Q:VK),Inv X pins σ H s→Vals xs us→r xs H Q →
  wpAny (model X.prog X.w) X.A (call f us) (EP X pins σ Q) X.xe s
def TruR (X:Cx) (r:V→Hp→(Bool→Hp→Prop)→Prop):Prop :=
 ∀ (pins:List (Addr × Obj)) (s:Shared) (σ:St) (H:Hp) (x:V) (v:Value) (Q:Bool→Hp→Prop),Inv X pins σ H s→RelV x v→r x H Q →
  wpAny (model X.prog X.w) X.A (truthy v) (TP X pins σ Q) X.xe s
def tOp (r:R2) (ta tb:TE):TE:=fun σ H Q=>ta σ H fun x H1=>tb σ H1 fun y H2=>r x y H2 Q
def tUn (r:V→Hp→VK→Prop) (ta:TE):TE:=fun σ H Q=>ta σ H fun x H1=>r x H1 Q
def rI (C:Int→Int→Prop) (g:Int→Int→V):R2:=fun x y H Q=>∃ i j,x=.int i∧y=.int j∧C i j∧Q (g i j) H
def rI0 (g:Int→Int→V):R2:=fun x y H Q=>∃ i j,x=.int i∧y=.int j∧Q (g i j) H
def rU (g:Int→V):V→Hp→VK→Prop:=fun x H Q=>∃ i,x=.int i∧Q (g i) H
section
variable {X:Cx}{a b c:Expr}{ta tb tc:TE}{pos:Pos}
theorem binT (ha:PE X a ta) (hb:PE X b tb) {pins:List (Addr × Obj)}{s:Shared}{σ:St}{H:Hp}{R:V→V→Hp→Prop} (I:Inv X pins σ H s)
  (h:ta σ H fun x H1=>tb σ H1 fun y H2=>R x y H2) {Q:Value→Shared→Prop}{f:Value→Value→Sem Value}
  (hf:∀ v u s2 x y H2,Inv X pins σ H2 s2→RelV x v→RelV y u→R x y H2→wpAny (model X.prog X.w) X.A (f v u) Q X.xe s2) :
  wpAny (model X.prog X.w) X.A (eval a X.env) (fun v s₁=>wpAny (model X.prog X.w) X.A (eval b X.env) (fun u s₂=>wpAny (model X.prog X.w) X.A (f v u) Q X.xe s₂) X.xe s₁) X.xe s:=by
 refine thn (ha pins s σ H _ I h) fun v s1 ⟨x,H1,I1,r1,q1⟩=>?_
 refine thn (hb pins s1 σ H1 _ I1 q1) fun u s2 ⟨y,H2,I2,r2,q2⟩=>?_
 exact hf v u s2 x y H2 I2 r1 r2 q2
theorem j0f {op:Operator}{r:R2} (ho:OpR X (binaryOp op) r) (ha:PE X a ta) (hb:PE X b tb):PE X (.BinOp a op b pos) (tOp r ta tb):=by
 intro pins s σ H Q I h
 exact wpAny_BinOp (binT ha hb I h fun v u s2 x y H2 I2 rx ry q=>ho pins s2 σ H2 x y v u Q I2 rx ry q)
theorem jfg {op:UnaryOp}{r:V→Hp→VK→Prop} (ho:UnR X (unaryOp op) r) (ha:PE X a ta):PE X (.UnaryOp op a pos) (tUn r ta):=by
 intro pins s σ H Q I h
 exact UnaryOp_ (thn (ha pins s σ H _ I h) fun v s1 ⟨x,H1,I1,r1,q1⟩=>ho pins s1 σ H1 x v Q I1 r1 q1)
theorem opI {f:Value→Value→Sem Value}{C:Int→Int→Prop}{g:Int→Int→Int}
  (rule:∀ (i j:Int) (t u:Tok) (s:Shared) (Q:Value→Shared→Prop) (E:Value→Shared→Prop),C i j→Q (.int (g i j) s.toks) { s with toks:=s.toks+1 }→wpAny (model X.prog X.w) X.A (f (.int i t) (.int j u)) Q E s) :
  OpR X f (rI C fun i j=>.int (g i j)):=by
 intro pins s σ H x y v u Q I rx ry h
 obtain⟨i,j,rfl,rfl,hc,q⟩:=h
 obtain⟨t,rfl⟩:=rx
 obtain⟨t',rfl⟩:=ry
 exact rule i j t t' s _ _ hc ⟨.int (g i j),H,I.tok _,⟨_,rfl⟩,q⟩
theorem opI0 {f:Value→Value→Sem Value}{g:Int→Int→Int}
  (rule:∀ (i j:Int) (t u:Tok) (s:Shared) (Q:Value→Shared→Prop) (E:Value→Shared→Prop),Q (.int (g i j) s.toks) { s with toks:=s.toks+1 }→wpAny (model X.prog X.w) X.A (f (.int i t) (.int j u)) Q E s) :
  OpR X f (rI0 fun i j=>.int (g i j)):=by
 intro pins s σ H x y v u Q I rx ry h
 obtain⟨i,j,rfl,rfl,q⟩:=h
 obtain⟨t,rfl⟩:=rx
 obtain⟨t',rfl⟩:=ry
 exact rule i j t t' s _ _ ⟨.int (g i j),H,I.tok _,⟨_,rfl⟩,q⟩
theorem opB0 {f:Value→Value→Sem Value}{g:Int→Int→Bool}
  (rule:∀ (i j:Int) (t u:Tok) (s:Shared) (Q:Value→Shared→Prop) (E:Value→Shared→Prop),Q (.bool (g i j)) s→wpAny (model X.prog X.w) X.A (f (.int i t) (.int j u)) Q E s) :
  OpR X f (rI0 fun i j=>.bl (g i j)):=by
 intro pins s σ H x y v u Q I rx ry h
 obtain⟨i,j,rfl,rfl,q⟩:=h
 obtain⟨t,rfl⟩:=rx
 obtain⟨t',rfl⟩:=ry
 exact rule i j t t' s _ _ ⟨.bl (g i j),H,I,rfl,q⟩
def CPow (i j:Int):Prop:=0≤j∧j≤1000000∧i.natAbs < 2 ^ 64
theorem op_add:OpR X (binaryOp .Add) (rI0 fun i j=>.int (i+j)):=opI0 fun _ _ _ _ _ _ _ q=>add_int q
theorem jdr:OpR X (binaryOp .Sub) (rI0 fun i j=>.int (i-j)):=opI0 fun _ _ _ _ _ _ _ q=>sub_int q
theorem j0u:OpR X (binaryOp .Mod) (rI (fun _ j=>0 < j) fun i j=>.int (i % j)):=opI fun i j _ _ _ _ _ hc q=>by
 have h1:(0:Int) < j:=hc
 exact mod_int' (by omega) (by rw[Int.fmod_eq_emod_of_nonneg i (by omega)];exact q)
theorem j87:OpR X (binaryOp .Pow) (rI CPow fun i j=>.int (i ^ j.toNat)):=opI fun _ _ _ _ _ _ _ hc q=>pow_int_small hc.1 hc.2.1 hc.2.2 q
theorem unI {f:Value→Sem Value}{g:Int→Int}
  (rule:∀ (i:Int) (t:Tok) (s:Shared) (Q:Value→Shared→Prop) (E:Value→Shared→Prop),Q (.int (g i) s.toks) { s with toks:=s.toks+1 }→wpAny (model X.prog X.w) X.A (f (.int i t)) Q E s) :
  UnR X f (rU fun i=>.int (g i)):=by
 intro pins s σ H x v Q I rx h
 obtain⟨i,rfl,q⟩:=h
 obtain⟨t,rfl⟩:=rx
 exact rule i t s _ _ ⟨.int (g i),H,I.tok _,⟨_,rfl⟩,q⟩
theorem j88:UnR X (unaryOp .USub) (rU fun i=>.int (-i)):=unI fun _ _ _ _ _ q=>neg_int q
end
def scal:V→V→Bool
 | .non,.non=>true | .non,.int _=>true | .int _,.non=>true | .non,.bl _=>true | .bl _,.non=>true | .non,.str _=>true | .str _,.non=>true
 | .int _,.int _=>true | .bl _,.bl _=>true | .str _,.str _=>true | .byt _,.byt _=>true
 | .int _,.str _=>true | .str _,.int _=>true | .bl _,.str _=>true | .str _,.bl _=>true
 | _,_=>false
def rEq:R2:=fun x y H Q=>scal x y=true∧Q (.bl (decide (x=y))) H
def rNe:R2:=fun x y H Q=>scal x y=true∧Q (.bl (!decide (x=y))) H
theorem jcq {i j:Int}:decide (V.int i=V.int j)=(i == j):=by
 rw[Bool.eq_iff_iff]
 simp
theorem jfp {i j:Bool}:decide (V.bl i=V.bl j)=(i == j):=by
 rw[Bool.eq_iff_iff]
 simp
theorem jcr {i j:Str}:decide (V.str i=V.str j)=(i == j):=by
 rw[Bool.eq_iff_iff]
 simp
theorem jcs {i j:Array UInt8}:decide (V.byt i=V.byt j)=(i.toList == j.toList):=by
 rw[Bool.eq_iff_iff]
 cases i
 cases j
 simp
section
variable {X:Cx}{a b c:Expr}{ta tb tc:TE}{pos:Pos}
theorem j14 {pins:List (Addr × Obj)}{σ:St}{H:Hp}{s:Shared}{Q:VK}{k k':Bool} (I:Inv X pins σ H s) (q:Q (.bl k) H) (e:k=k'):EP X pins σ Q (.bool k') s:=by
 subst e
 exact⟨.bl k,H,I,rfl,q⟩
theorem op_eq:OpR X (compareOp .Eq) rEq:=by
 intro pins s σ H x y v u Q I rx ry h
 obtain⟨hs,q⟩:=h
 cases x with
 | non =>
  cases rx
  cases y with
  | non=>cases ry;exact PySem.EqNone.eq_none_none (j14 I q (by simp))
  | bl j=>cases ry;exact PySem.EqNone.eq_none_bool (j14 I q (by simp))
  | int j=>obtain⟨t',rfl⟩:=ry;exact PySem.EqNone.eq_none_int (j14 I q (by simp))
  | str j=>obtain⟨t',rfl⟩:=ry;exact PySem.EqNone.eq_none_str (j14 I q (by simp))
  | _=>exact absurd (show false=true from hs) Bool.false_ne_true
 | bl i =>
  cases rx
  cases y with
  | non=>cases ry;exact PySem.EqNone.eq_bool_none (j14 I q (by simp))
  | bl j=>cases ry;exact eq_bool (j14 I q jfp)
  | str j=>obtain⟨t',rfl⟩:=ry;exact PySem.EqMixed.eq_bool_str (j14 I q (by simp))
  | _=>exact absurd (show false=true from hs) Bool.false_ne_true
 | int i =>
  obtain⟨t,rfl⟩:=rx
  cases y with
  | non=>cases ry;exact PySem.EqNone.eq_int_none (j14 I q (by simp))
  | int j=>obtain⟨t',rfl⟩:=ry;exact eq_int (j14 I q jcq)
  | str j=>obtain⟨t',rfl⟩:=ry;exact PySem.EqMixed.eq_int_str (j14 I q (by simp))
  | _=>exact absurd (show false=true from hs) Bool.false_ne_true
 | str i =>
  obtain⟨t,rfl⟩:=rx
  cases y with
  | non=>cases ry;exact PySem.EqNone.eq_str_none (j14 I q (by simp))
  | bl j=>cases ry;exact PySem.EqMixed.eq_str_bool (j14 I q (by simp))
  | int j=>obtain⟨t',rfl⟩:=ry;exact PySem.EqMixed.eq_str_int (j14 I q (by simp))
  | str j=>obtain⟨t',rfl⟩:=ry;exact eq_str (j14 I q jcr)
  | _=>exact absurd (show false=true from hs) Bool.false_ne_true
 | byt i =>
  obtain⟨t,rfl⟩:=rx
  cases y with
  | byt j=>obtain⟨t',rfl⟩:=ry;exact PySem.W.eq_bytes (j14 I q jcs)
  | _=>exact absurd (show false=true from hs) Bool.false_ne_true
 | _=>cases y <;> exact absurd (show false=true from hs) Bool.false_ne_true
theorem jim:OpR X (compareOp .NotEq) rNe:=by
 intro pins s σ H x y v u Q I rx ry h
 obtain⟨hs,q⟩:=h
 cases x with
 | non =>
  cases rx
  cases y with
  | non=>cases ry;exact PySem.EqNone.ne_none_none (j14 I q (by simp))
  | bl j=>cases ry;exact PySem.EqNone.ne_none_bool (j14 I q (by simp))
  | int j=>obtain⟨t',rfl⟩:=ry;exact PySem.EqNone.ne_none_int (j14 I q (by simp))
  | str j=>obtain⟨t',rfl⟩:=ry;exact PySem.EqNone.ne_none_str (j14 I q (by simp))
  | _=>exact absurd (show false=true from hs) Bool.false_ne_true
 | bl i =>
  cases rx
  cases y with
  | non=>cases ry;exact PySem.EqNone.ne_bool_none (j14 I q (by simp))
  | bl j=>cases ry;exact ne_bool (j14 I q (congrArg not jfp))
  | str j=>obtain⟨t',rfl⟩:=ry;exact PySem.EqMixed.ne_bool_str (j14 I q (by simp))
  | _=>exact absurd (show false=true from hs) Bool.false_ne_true
 | int i =>
  obtain⟨t,rfl⟩:=rx
  cases y with
  | non=>cases ry;exact PySem.EqNone.ne_int_none (j14 I q (by simp))
  | int j=>obtain⟨t',rfl⟩:=ry;exact ne_int (j14 I q (congrArg not jcq))
  | str j=>obtain⟨t',rfl⟩:=ry;exact PySem.EqMixed.ne_int_str (j14 I q (by simp))
  | _=>exact absurd (show false=true from hs) Bool.false_ne_true
 | str i =>
  obtain⟨t,rfl⟩:=rx
  cases y with
  | non=>cases ry;exact PySem.EqNone.ne_str_none (j14 I q (by simp))
  | bl j=>cases ry;exact PySem.EqMixed.ne_str_bool (j14 I q (by simp))
  | int j=>obtain⟨t',rfl⟩:=ry;exact PySem.EqMixed.ne_str_int (j14 I q (by simp))
  | str j=>obtain⟨t',rfl⟩:=ry;exact ne_str (j14 I q (congrArg not jcr))
  | _=>exact absurd (show false=true from hs) Bool.false_ne_true
 | byt i =>
  obtain⟨t,rfl⟩:=rx
  cases y with
  | byt j=>obtain⟨t',rfl⟩:=ry;exact PySem.W.ne_bytes (j14 I q (congrArg not jcs))
  | _=>exact absurd (show false=true from hs) Bool.false_ne_true
 | _=>cases y <;> exact absurd (show false=true from hs) Bool.false_ne_true
theorem jfq:OpR X (compareOp .Lt) (rI0 fun i j=>.bl (decide (i < j))):=opB0 fun _ _ _ _ _ _ _ q=>lt_int q
theorem op_le:OpR X (compareOp .LtE) (rI0 fun i j=>.bl (decide (i≤j))):=opB0 fun _ _ _ _ _ _ _ q=>le_int q
theorem op_gt:OpR X (compareOp .Gt) (rI0 fun i j=>.bl (decide (j < i))):=opB0 fun _ _ _ _ _ _ _ q=>gt_int q
theorem op_isN:OpR X (compareOp .Is) (fun x y H Q=>y=.non∧Q (.bl (decide (x=.non))) H):=by
 intro pins s σ H x y v u Q I rx ry h
 obtain⟨rfl,q⟩:=h
 cases ry
 refine is_none_gen (j14 I q ?_)
 cases x <;> first
  | (cases rx;rfl)
  | (obtain⟨t,rfl⟩:=rx;rfl)
theorem OpR.or {f:Value→Value→Sem Value}{r r':R2} (h:OpR X f r) (h':OpR X f r'):OpR X f (fun x y H Q=>r x y H Q∨r' x y H Q):=by
 intro pins s σ H x y v u Q I rx ry q
 rcases q with q | q
 ·exact h pins s σ H x y v u Q I rx ry q
 ·exact h' pins s σ H x y v u Q I rx ry q
theorem j0j (b:Expr) {op:CmpOp} (h:op≠.In:=by decide) (h2:op≠.NotIn:=by decide):behindInMarks op b=false:=by
 have e1:(op == CmpOp.In)=false:=by cases op <;> first | rfl | exact absurd rfl h
 have e2:(op == CmpOp.NotIn)=false:=by cases op <;> first | rfl | exact absurd rfl h2
 cases b <;> simp[behindInMarks,e1,e2]
theorem j1l {op:CmpOp}{r:R2} (ho:OpR X (compareOp op) r) (ha:PE X a ta) (hb:PE X b tb) (hm:behindInMarks op b=false):PE X (.Compare a [op] [b] pos) (tOp r ta tb):=by
 intro pins s σ H Q I h
 exact wpAny_Compare1 (binT ha hb I h fun v u s2 x y H2 I2 rx ry q=>ho pins s2 σ H2 x y v u Q I2 rx ry q) hm
def jj2 (t:TE):TT:=fun σ H Q=>t σ H fun x H'=>∃ k,x=.bl k∧Q k H'
theorem j0h {op:CmpOp}{r:R2} (ho:OpR X (compareOp op) r) (ha:PE X a ta) (hb:PE X b tb) (hm:behindInMarks op b=false):PT X (.Compare a [op] [b] pos) (jj2 (tOp r ta tb)):=by
 intro pins s σ H Q I h
 refine wpAny_isTrue_Compare1 (thn (ha pins s σ H _ I h) fun v s1 ⟨x,H1,I1,r1,q1⟩=>thn (hb pins s1 σ H1 _ I1 q1) fun u s2 ⟨y,H2,I2,r2,q2⟩ =>
  thn (ho pins s2 σ H2 x y v u _ I2 r1 r2 q2) fun c s3 ⟨z,H3,I3,r3,k,e,q3⟩=>?_) hm
 subst e
 cases r3
 exact wpAny_truthy_bool ⟨H3,I3,q3⟩
def jds (r r':R2) (ta tb tc:TE):TE:=fun σ H Q=>ta σ H fun x H1=>tb σ H1 fun y H2=>r x y H2 fun z H3=>∃ k,z=.bl k ∧
 (if k=true then tc σ H3 fun w' H4=>r' y w' H4 Q else Q (.bl false) H3)
theorem j2c {op op':CmpOp}{r r':R2} (ho:OpR X (compareOp op) r) (ho':OpR X (compareOp op') r') (ha:PE X a ta) (hb:PE X b tb) (hc:PE X c tc)
  (hm:lastMarks [op,op'] [b,c]=false:=by with_unfolding_all rfl):PE X (.Compare a [op,op'] [b,c] pos) (jds r r' ta tb tc):=by
 intro pins s σ H Q I h
 refine Compare_chain (thn (ha pins s σ H _ I h) fun v s1 ⟨x,H1,I1,r1,q1⟩=>chain_link (thn (hb pins s1 σ H1 _ I1 q1) fun u s2 ⟨y,H2,I2,r2,q2⟩ =>
  thn (ho pins s2 σ H2 x y v u _ I2 r1 r2 q2) fun d s3 ⟨z,H3,I3,r3,k,e,q3⟩=>?_)) hm
 subst e
 cases r3
 refine wpAny_truthy_bool ?_
 cases k with
 | false=>exact ite_ff ⟨.bl false,H3,I3,rfl,q3⟩
 | true=>exact ite_tt (chain_last (thn (hc pins s3 σ H3 _ I3 q3) fun w' s4 ⟨z',H4,I4,r4,q4⟩=>ho' pins s4 σ H4 y z' u w' Q I4 r2 r4 q4))
theorem j6e {op op':CmpOp}{r r':R2} (ho:OpR X (compareOp op) r) (ho':OpR X (compareOp op') r') (ha:PE X a ta) (hb:PE X b tb) (hc:PE X c tc)
  (hm:lastMarks [op,op'] [b,c]=false:=by with_unfolding_all rfl):PT X (.Compare a [op,op'] [b,c] pos) (jj2 (jds r r' ta tb tc)):=by
 intro pins s σ H Q I h
 refine isTrue_chain (thn (ha pins s σ H _ I h) fun v s1 ⟨x,H1,I1,r1,q1⟩=>test_link (thn (hb pins s1 σ H1 _ I1 q1) fun u s2 ⟨y,H2,I2,r2,q2⟩ =>
  thn (ho pins s2 σ H2 x y v u _ I2 r1 r2 q2) fun d s3 ⟨z,H3,I3,r3,k,e,q3⟩=>?_)) hm
 subst e
 cases r3
 refine wpAny_truthy_bool ?_
 cases k with
 | false =>
  obtain⟨k',e',q'⟩:=q3
  cases e'
  exact ite_ff ⟨H3,I3,q'⟩
 | true =>
  refine ite_tt (test_last (thn (hc pins s3 σ H3 _ I3 q3) fun w' s4 ⟨z',H4,I4,r4,q4⟩=>thn (ho' pins s4 σ H4 y z' u w' _ I4 r2 r4 q4) fun d' s5 ⟨z2,H5,I5,r5,k2,e2,q5⟩=>?_))
  subst e2
  cases r5
  exact wpAny_truthy_bool ⟨H5,I5,q5⟩
def TruV (K:PySem.W.Frag) (x:V) (H:Hp) (k:Bool):Prop :=
 match x with
 | .non=>k=false
 | .bl b=>k=b
 | .int i=>k=(i != 0)
 | .str y=>y.length≤sizeLine∧k=((y.length:Int) != 0)
 | .byt y=>y.size≤sizeLine∧k=((y.size:Int) != 0)
 | .ref p=>(∃ xs,SqL K H p xs∧k=!xs.isEmpty)∨(∃ xs,SqT K H p xs∧k=!xs.isEmpty)∨∃ kvs,H p=some (.dK kvs)∧k=!kvs.isEmpty
 | _=>False
theorem j91 {κ:Type}{kvs:List (κ × V)}{vs:List (κ × Value)} (r:KV kvs vs):(!vs.isEmpty)=!kvs.isEmpty:=by
 cases r <;> rfl
theorem j5d {xs:List V}{its:List Value} (r:Vals xs its):(!its.toArray.isEmpty)=!xs.isEmpty:=by
 cases r <;> simp
theorem j89:(sizeLine:Nat) < 2 ^ 63:=by rw[sizeLine_eq];decide
theorem tru_ok:TruR X (fun x H Q=>∃ k,TruV X.K x H k∧Q k H):=by
 intro pins s σ H x v Q I rx h
 obtain⟨k,e,q⟩:=h
 have hl:=j89
 have hs:sizeLine=16777216:=sizeLine_eq
 cases x with
 | non =>
  cases rx
  have e':k=false:=e
  subst e'
  exact truthy_none ⟨H,I,q⟩
 | bl b =>
  cases rx
  have e':k=b:=e
  subst e'
  exact wpAny_truthy_bool ⟨H,I,q⟩
 | int i =>
  obtain⟨t,rfl⟩:=rx
  have e':k=(i != 0):=e
  subst e'
  exact PySem.P.truthy_int ⟨H,I,q⟩
 | str y =>
  obtain⟨t,rfl⟩:=rx
  obtain⟨hy,e'⟩:y.length≤sizeLine∧k=((y.length:Int) != 0):=e
  subst e'
  exact PySem.P.truthy_str (by omega) ⟨H,I.tok _,q⟩
 | byt y =>
  obtain⟨t,rfl⟩:=rx
  obtain⟨hy,e'⟩:y.size≤sizeLine∧k=((y.size:Int) != 0):=e
  subst e'
  exact PySem.W.truthy_bytes (by omega) ⟨H,I.tok _,q⟩
 | ref p =>
  cases rx
  have e':(∃ xs,SqL X.K H p xs∧k=!xs.isEmpty)∨(∃ xs,SqT X.K H p xs∧k=!xs.isEmpty)∨∃ kvs,H p=some (.dK kvs)∧k=!kvs.isEmpty:=e
  rcases e' with⟨xs,hx,e'⟩ | ⟨xs,hx,e'⟩ | ⟨kvs,hx,e'⟩
  ·subst e'
   obtain⟨its,r,pl,hz⟩:=I.list hx
   have hlen:=r.length
   exact wpAny_truthy_list pl.isList (by simp only[List.size_toArray];omega) ⟨H,I.tok _,by rw[j5d r];exact q⟩
  ·subst e'
   obtain⟨its,r,pl,hz⟩:=I.tuple hx
   have hlen:=r.length
   exact truthy_tuple pl (by simp only[List.size_toArray];omega) ⟨H,I.tok _,by rw[j5d r];exact q⟩
  ·subst e'
   obtain⟨hz,hS,vs,r,m⟩:kvs.length≤sizeLine∧(p == sysModules)=false∧∃ vs,KV kvs vs∧s.heap.DictOf (j1y X.prog X.w) p vs:=I.hok p _ hx
   have hlen:kvs.length=vs.length:=Paired.length r
   exact wpAny_truthy_dict hS m (by omega) ⟨H,I.tok _,by rw[j91 r];exact q⟩
 | _=>exact (show False from e).elim
theorem jdt (ha:PE X a ta) (he:∀ whole,isTrue a X.env whole=(do let v ← whole;standAt a.pos;holding [v] (truthy v))) :
  PT X a (fun σ H Q=>ta σ H fun x H'=>∃ k,TruV X.K x H' k∧Q k H'):=by
 intro pins s σ H Q I h
 exact isTrue_plain (thn (ha pins s σ H _ I h) fun v s1 ⟨x,H1,I1,r1,q1⟩=>tru_ok pins s1 σ H1 x v Q I1 r1 q1) (he _)
theorem j92:OpR X (binaryOp .Add) (fun x y H Q=>∃ i j,x=.str i∧y=.str j∧i.length+j.length≤sizeLine∧Q (.str (i++j)) H):=by
 intro pins s σ H x y v u Q I rx ry h
 obtain⟨i,j,rfl,rfl,hz,q⟩:=h
 obtain⟨t,rfl⟩:=rx
 obtain⟨t',rfl⟩:=ry
 exact add_str (fun t' tk=>⟨.str (i++j),H,I.tok _,⟨_,rfl⟩,q⟩) hz
theorem j8a {x:V}{us:List Value} (r:Vals [x] us):∃ u,us=[u]∧RelV x u:=by
 cases r with
 | cons r1 r2=>cases r2;exact⟨_,rfl,r1⟩
theorem jfh {x y:V}{us:List Value} (r:Vals [x,y] us):∃ u w',us=[u,w']∧RelV x u∧RelV y w':=by
 cases r with
 | cons r1 r2 =>
  cases r2 with
  | cons r3 r4=>cases r4;exact⟨_,_,rfl,r1,r3⟩
theorem jdu:CallR X (.builtin "abs") (fun xs H Q=>∃ i,xs=[.int i]∧Q (.int (if i < 0 then -i else i)) H):=by
 intro pins s σ H xs us Q I r h
 obtain⟨i,rfl,q⟩:=h
 obtain⟨u,rfl,t,rfl⟩:=j8a r
 exact call_abs_int fun u tk=>⟨.int (if i < 0 then -i else i),H,I.tok _,⟨_,rfl⟩,q⟩
theorem jb8 (hc:X.calm=true):CallR X (.builtin "max") (fun xs H Q=>∃ i j,xs=[.int i,.int j]∧Q (.int (if j > i then j else i)) H):=by
 intro pins s σ H xs us Q I r h
 obtain⟨i,j,rfl,q⟩:=h
 obtain⟨u,w',rfl,⟨t,rfl⟩,⟨t',rfl⟩⟩:=jfh r
 refine max_two_ints (I.ok.hd hc) fun h' tk k=>⟨_,H,I.kept k,?_,q⟩
 by_cases hj:j > i
 ·rw[if_pos hj,if_pos hj];exact⟨_,rfl⟩
 ·rw[if_neg hj,if_neg hj];exact⟨_,rfl⟩
def LenV (K:PySem.W.Frag) (x:V) (H:Hp) (n:Nat):Prop :=
 match x with
 | .str y=>y.length≤sizeLine∧n=y.length
 | .byt y=>y.size≤sizeLine∧n=y.size
 | .ref p=>(∃ xs,SqL K H p xs∧n=xs.length)∨∃ xs,SqT K H p xs∧n=xs.length
 | _=>False
theorem jdv:CallR X (.builtin "len") (fun xs H Q=>∃ x n,xs=[x]∧LenV X.K x H n∧Q (.int n) H):=by
 intro pins s σ H xs us Q I r h
 obtain⟨x,n,rfl,e,q⟩:=h
 obtain⟨u,rfl,rx⟩:=j8a r
 have hl:=j89
 have hs:sizeLine=16777216:=sizeLine_eq
 cases x with
 | str y =>
  obtain⟨t,rfl⟩:=rx
  obtain⟨hy,e'⟩:y.length≤sizeLine∧n=y.length:=e
  subst e'
  exact len_str (by omega) ⟨.int _,H,I.tok _,⟨_,rfl⟩,q⟩
 | byt y =>
  obtain⟨t,rfl⟩:=rx
  obtain⟨hy,e'⟩:y.size≤sizeLine∧n=y.size:=e
  subst e'
  exact PySem.W.len_bytes (by omega) ⟨.int _,H,I.tok _,⟨_,rfl⟩,q⟩
 | ref p =>
  cases rx
  have e':(∃ xs,SqL X.K H p xs∧n=xs.length)∨∃ xs,SqT X.K H p xs∧n=xs.length:=e
  rcases e' with⟨xs,hx,e'⟩ | ⟨xs,hx,e'⟩
  ·subst e'
   obtain⟨its,r',pl,hz⟩:=I.list hx
   have hlen:=r'.length
   exact Calls.call_len_list pl.isList (by simp only[List.size_toArray];omega) ⟨.int xs.length,H,I.tok _,⟨_,by simp only[List.size_toArray];rw[hlen]⟩,q⟩
  ·subst e'
   obtain⟨its,r',pl,hz⟩:=I.tuple hx
   have hlen:=r'.length
   exact len_tuple pl (by simp only[List.size_toArray];omega) ⟨.int xs.length,H,I.tok _,⟨_,by simp only[List.size_toArray];rw[hlen]⟩,q⟩
 | _=>exact (show False from e).elim
end
structure ObjM (h:Heap) (x dx C:Addr) (mA:Str→Option Value):Prop where
 obj:h.get? x=some (PySem.W.instObj C dx)
 ns:h.Ns1 dx mA
 ne:dx≠x
theorem jb9 {h:Heap}{dx:Addr}{mA:Str→Option Value} (n:h.Ns1 dx mA):∃ od,h.get? dx=some od∧∀ name,PySem.W.lookIn name od=some (mA name):=by
 obtain⟨o,es,ep,ho,hd,hk,_,hm⟩:=n
 refine⟨o,ho,fun name=>?_⟩
 have e:=hm name
 unfold nsFind findBy at e
 rw[← Array.find?_toList] at e
 unfold PySem.W.lookIn
 rw[hd]
 dsimp only
 split
 ·rename_i y q
  rw[q] at e
  exact congrArg some e
 ·rename_i q
  rw[q] at e
  have a:es.toList.any (·.refKey)=false:=by
   rw[List.any_eq_false]
   intro y hy
   obtain⟨z,t,hkey⟩:=hk y (Array.mem_toList_iff.mp hy)
   simp[DictEntry.refKey,hkey]
  have a':¬ es.toList.any (·.refKey)=true:=by rw[a];exact Bool.false_ne_true
  rw[if_neg a']
  exact congrArg some e
theorem ObjM.look {h:Heap}{x dx C:Addr}{mA:Str→Option Value} (I:ObjM h x dx C mA):∃ od,PySem.W.InstAt h x (PySem.W.instObj C dx) C (some od)∧∀ name,PySem.W.lookIn name od=some (mA name) :=
 let ⟨od,ho,hl⟩:=jb9 I.ns
 ⟨od,⟨I.obj,rfl,rfl,ho⟩,hl⟩
section
variable {prog:Program}{w:World}{A:Around}{E:Value→Shared→Prop}{s:Shared}{K:PySem.W.Frag}{x dx C f:Addr}{mA:Str→Option Value}{name:Str}{v:Value}
theorem jfr {expr:Bool}{Q:Value→Shared→Prop} (X:K.In s.heap) (I:ObjM s.heap x dx C mA) (hg:PySem.W.plainGet K C name=true) (hh:PySem.W.hasDictIn K C=true)
  (ha:PySem.W.findIn K (.ref C) name=some none) (hv:mA name=some v) (hv':PySem.W.handedIn v=true) (h:Q v { s with toks:=s.toks+1 }) :
  wpAny (model prog w) A (getAttr (.ref x) name expr) Q E s:=by
 obtain⟨od,J,hl⟩:=I.look
 exact PySem.W.get_value X J (PySem.W.plainGet_of hg).1 (PySem.W.findObj_own hh ha rfl (by rw[hl,hv])) hv' h
theorem jdw {pl:Sem Bool}{Q:Value × List Value→Shared→Prop} (X:K.In s.heap) (I:ObjM s.heap x dx C mA) (hg:PySem.W.plainGet K C name=true)
  (hf:PySem.W.findIn K (.ref C) name=some (some (.ref f))) (ht:PySem.W.isFn K (.ref f)=true) (hv:mA name=none) (h:Q (.ref f,[.ref x]) s) :
  wpAny (model prog w) A (getMethod (.ref x) name pl) Q E s:=by
 obtain⟨od,J,hl⟩:=I.look
 exact PySem.W.method_fn X J (PySem.W.plainGet_of hg).1 (PySem.W.plainGet_of hg).2 hf (beq_iff_eq.mp ht) (by show (PySem.W.lookIn name od).map (·.isSome)=some false;rw[hl,hv];rfl) h
theorem jfs {ns:List Str}{Q:Unit→Shared→Prop} (X:K.In s.heap) (I:ObjM s.heap x dx C mA)
  (hs:PySem.W.findIn K (.ref C) "__setattr__"=some (some (.builtin "object.__setattr__"))) (hp:PySem.W.plainOver K C=true) (ht:PySem.W.takerIn K C name=some none) (hh:PySem.W.hasDictIn K C=true)
  (hw:PySem.Within mA ns) (hsz:ns.length≤sizeLine)
  (h:∀ h',ObjM h' x dx C (fun y=>if y=name then some v else mA y)→Heap.SameBut dx s.heap h'→Q () { s with heap:=h',toks:=s.toks+2 }) :
  wpAny (model prog w) A (setAttr (.ref x) name v) Q E s:=by
 obtain⟨od,J,hl⟩:=I.look
 refine PySem.W.set_plain X J hs (PySem.W.osa_open (s:={ s with toks:=s.toks+1 }) (r:=none) X J hp ht fun b=>?_)
 obtain⟨cd,hc,hd'⟩:=PySem.W.any_some hh
 have hx:s.heap.get? x=some ⟨.ref C,some dx,.plain,#[]⟩:=I.obj
 refine wpAny_bind (wpAny_pure (wpAny_bind (wpAny_bind (wpAny_loadPart hx (wpAny_bind (PySem.W.Looks.here (s:={ s with toks:=s.toks+1 }) (PySem.W.looks_clsIn X hc) ?_))))))
 rw[hd']
 refine wpAny_pure (a:=some dx) (wpAny_bind (wpAny_pure (wpAny_bind ?_)))
 refine wpAny_nsSet1 (s:={ s with toks:=s.toks+1 }) I.ns fun h' hn2 hs2=>?_
 obtain⟨oD,esD,epD,hoD,hdD,hcD⟩:=hn2.count (PySem.Within.cons name v hw)
 refine wpAny_bind (wpAny_lookBehind hoD (by rw[hdD];exact pastItsLine_dict (Nat.le_trans hcD (by rw[List.length_cons];omega))) ?_)
 exact wpAny_pure (h _ ⟨(hs2.2 _ (Ne.symm I.ne)).trans I.obj,hn2,I.ne⟩ hs2)
theorem jdx {R:Result→Shared→Prop}{vs:List Value}{kw:List (Str × Value)} (X:K.In s.heap) (hm:PySem.W.makesIn K C=true)
  (hi:PySem.W.findIn K (.ref C) "__init__"=some (some (.ref f))) (hf:PySem.W.typeIn K (.ref f)=some (.type "function"))
  (h:codeAny (model prog w) (A.under (.builtin "type.__call__" ⟨.ref C :: vs,kw⟩)) (.call (.ref f) ⟨.ref (s.heap.objs.size+1) :: vs,kw⟩) (PySem.W.InitBack (s.heap.objs.size+1) R)
   { s with heap:=(s.heap.push PySem.W.emptyDict).push (PySem.W.instObj C s.heap.objs.size) }) :
  codeAny (model prog w) A (.call (.ref C) ⟨vs,kw⟩) R s:=by
 obtain⟨hh,g,d,t,os⟩:=s
 exact PySem.W.make_core (PySem.W.makes_of X hm) (PySem.W.looks_findIn X hi) (fun self=>PySem.W.bind_fn X self hf) (.inl rfl) h
end
def putF (f:Str) (v:V):List (Str × V)→List (Str × V)
 | []=>[(f,v)]
 | (g,x) :: r=>if g=f then (g,v) :: r else (g,x) :: putF f v r
theorem j4d (f g:Str) (v:V):∀ fs:List (Str × V),(putF f v fs).lookup g=if g=f then some v else fs.lookup g
 | []=>by
  show List.lookup g [(f,v)]=_
  by_cases h:g=f
  ·have hb:(g == f)=true:=beq_iff_eq.mpr h
   simp only[List.lookup,hb,if_pos h]
  ·have hb:(g == f)=false:=beq_eq_false_iff_ne.mpr h
   simp only[List.lookup,hb,if_neg h]
 | (k,x) :: r=>by
  have ih:=j4d f g v r
  rw[show putF f v ((k,x) :: r)=(if k=f then (k,v) :: r else (k,x) :: putF f v r) from rfl]
  by_cases hk:k=f
  ·rw[if_pos hk]
   by_cases h:g=k
   ·have hb:(g == k)=true:=beq_iff_eq.mpr h
    simp only[List.lookup,hb,if_pos (h.trans hk)]
   ·have hb:(g == k)=false:=beq_eq_false_iff_ne.mpr h
    simp only[List.lookup,hb,if_neg (fun e:g=f=>h (e.trans hk.symm))]
  ·rw[if_neg hk]
   by_cases h:g=k
   ·have hb:(g == k)=true:=beq_iff_eq.mpr h
    simp only[List.lookup,hb,if_neg (fun e:g=f=>hk (h.symm.trans e))]
   ·have hb:(g == k)=false:=beq_eq_false_iff_ne.mpr h
    simp only[List.lookup,hb]
    exact ih
theorem j4m (f:Str) (v:V):∀ fs:List (Str × V),f∈(putF f v fs).map (·.1)∧∀ g,g∈fs.map (·.1)→g∈(putF f v fs).map (·.1)
 | []=>⟨by simp[putF],fun g h=>by simp at h⟩
 | (k,x) :: r=>by
  obtain⟨i1,i2⟩:=j4m f v r
  rw[show putF f v ((k,x) :: r)=(if k=f then (k,v) :: r else (k,x) :: putF f v r) from rfl]
  by_cases hk:k=f
  ·rw[if_pos hk]
   subst hk
   exact⟨by simp,fun g h=>by simpa using h⟩
  ·rw[if_neg hk]
   refine⟨?_,fun g h=>?_⟩
   ·rw[List.map_cons]
    exact List.mem_cons_of_mem _ i1
   ·rw[List.map_cons] at h ⊢
    rcases List.mem_cons.mp h with e | e
    ·exact List.mem_cons.mpr (.inl e)
    ·exact List.mem_cons_of_mem _ (i2 g e)
theorem j4e (f:Str) (v:V):∀ fs:List (Str × V),(putF f v fs).length≤fs.length+1
 | []=>by simp[putF]
 | (k,x) :: r=>by
  have ih:=j4e f v r
  rw[show putF f v ((k,x) :: r)=(if k=f then (k,v) :: r else (k,x) :: putF f v r) from rfl]
  by_cases hk:k=f
  ·rw[if_pos hk,List.length_cons,List.length_cons];omega
  ·rw[if_neg hk,List.length_cons,List.length_cons];omega
theorem RelO.some_of {v:V}{o:Option Value} (r:RelO (some v) o):∃ u,o=some u∧RelV v u:=by
 cases o with
 | none=>exact (show False from r).elim
 | some u=>exact⟨u,rfl,r⟩
theorem RelO.none_of {o:Option Value} (r:RelO none o):o=none:=by
 cases o with
 | none=>rfl
 | some u=>exact (show False from r).elim
theorem j7c {v:V}{u:Value} (r:RelV v u):PySem.W.handedIn u=true:=by
 cases v with
 | non=>cases (show u=Value.none from r);rfl
 | bl b=>cases (show u=Value.bool b from r);rfl
 | int i=>obtain⟨t,e⟩:=(show ∃ t,u=Value.int i t from r);cases e;rfl
 | str x=>obtain⟨t,e⟩:=(show ∃ t,u=Value.str x t from r);cases e;rfl
 | byt b=>obtain⟨t,e⟩:=(show ∃ t,u=Value.bytes b t from r);cases e;rfl
 | flt b=>obtain⟨t,e⟩:=(show ∃ t,u=Value.float b t from r);cases e;rfl
 | ref a=>cases (show u=Value.ref a from r);rfl
 | ty n=>cases (show u=Value.type n from r);rfl
section
variable {P:Program}{w:World}{H H':Hp}{h h':Heap}{a C dx:Addr}{fs fs':List (Str × V)}
theorem j7d (hok:HOk P w H h) (e:H a=some (.ins C dx fs)):∃ mA,ObjM h a dx C mA∧(∀ f,RelO (fs.lookup f) (mA f))∧PySem.Within mA (fs.map (·.1))∧fs.length≤1000∧H dx=some (.own a):=by
 obtain⟨d,z,ne,ob,mA,n,r,q⟩:=(show ObjOk P w H h a (.ins C dx fs) from hok a _ e)
 exact⟨mA,⟨ob,n,ne⟩,r,q,z,d⟩
end
structure Cls (K:PySem.W.Frag) (C:Addr):Prop where
 pg:PySem.W.plainGet K C Str.empty=true
 hd:PySem.W.hasDictIn K C=true
 po:PySem.W.plainOver K C=true
 sa:PySem.W.findIn K (.ref C) "__setattr__"=some (some (.builtin "object.__setattr__"))
theorem Cls.get {K:PySem.W.Frag}{C:Addr} (c:Cls K C) (f:Str):PySem.W.plainGet K C f=true:=c.pg
def NoAttr (K:PySem.W.Frag) (C:Addr) (f:Str):Prop:=PySem.W.findIn K (.ref C) f=some none
theorem NoAttr.taker {K:PySem.W.Frag}{C:Addr}{f:Str} (n:NoAttr K C f):PySem.W.takerIn K C f=some none:=by
 unfold PySem.W.takerIn
 rw[show PySem.W.findIn K (.ref C) f=some none from n]
 rfl
structure Con (K:PySem.W.Frag) (C:Addr) (f:Str) (v:V) (u:Value):Prop where
 at_:PySem.W.findIn K (.ref C) f=some (some u)
 rel:RelV v u
 get:PySem.W.specialIn K u "__get__"=some none
 cp:PySem.W.copiedNames.contains f=false
structure Meth (K:PySem.W.Frag) (C:Addr) (m:Str) (f:Addr):Prop where
 at_:PySem.W.findIn K (.ref C) m=some (some (.ref f))
 fn:PySem.W.isFn K (.ref f)=true
 kp:PySem.W.keepIn K (.ref f)=true
section
variable {X:Cx}{pins:List (Addr × Obj)}{σ:St}{H:Hp}{s:Shared}{a C dx:Addr}{fs:List (Str × V)}{f:Str}{v:V}{A:Around}{E:Value→Shared→Prop}
theorem j93 {b:Bool}{Q:Value→Shared→Prop} (I:Inv X pins σ H s) (e:H a=some (.ins C dx fs)) (c:Cls X.K C) (n:NoAttr X.K C f) (l:fs.lookup f=some v)
  (h:∀ u s',Inv X pins σ H s'→RelV v u→Q u s'):wpAny (model X.prog X.w) A (getAttr (.ref a) f b) Q E s:=by
 obtain⟨mA,O,r,_,_,_⟩:=j7d I.hok e
 obtain⟨u,hu,ru⟩:=RelO.some_of (v:=v) (o:=mA f) (by rw[← l];exact r f)
 exact jfr I.kIn O (c.get f) c.hd n hu (j7c ru) (h u _ (I.tok _) ru)
theorem j5e {m:Str}{g:Addr}{pl:Sem Bool}{Q:Value × List Value→Shared→Prop} (I:Inv X pins σ H s) (e:H a=some (.ins C dx fs)) (c:Cls X.K C) (k:Meth X.K C m g) (l:fs.lookup m=none)
  (h:Q (.ref g,[.ref a]) s):wpAny (model X.prog X.w) A (getMethod (.ref a) m pl) Q E s:=by
 obtain⟨mA,O,r,_,_,_⟩:=j7d I.hok e
 have hn:mA m=none:=RelO.none_of (by rw[← l];exact r m)
 exact jdw I.kIn O (c.get m) k.at_ k.fn hn h
theorem j94 {y:V}{u:Value}{Q:Unit→Shared→Prop} (I:Inv X pins σ H s) (e:H a=some (.ins C dx fs)) (c:Cls X.K C) (n:NoAttr X.K C f) (hl:fs.length < 1000) (ry:RelV y u)
  (h:∀ s',Inv X pins σ (upd H a (.ins C dx (putF f y fs))) s'→Q () s'):wpAny (model X.prog X.w) A (setAttr (.ref a) f u) Q E s:=by
 obtain⟨mA,O,r,wi,_,ho⟩:=j7d I.hok e
 have hz:(fs.map (·.1)).length≤sizeLine:=by rw[List.length_map,sizeLine_eq];omega
 refine jfs I.kIn O c.sa c.po n.taker c.hd wi hz fun h' O' sb=>h _ ?_
 have hd:∃ o,h'.get? dx=some o:=let ⟨o,_,_,e',_⟩:=O'.ns;⟨o,e'⟩
 refine I.write (x:=a) (e:=dx) (by rw[e];exact True.intro) (.inr ho) (fun b q hb z=>(sb.2 b hb).trans z) hd ?_
 refine⟨by rw[j0e O.ne];exact ho,?_,O.ne,O'.obj,_,O'.ns,fun g=>?_,fun g hg=>?_⟩
 ·have:=j4e f y fs;omega
 ·show RelO ((putF f y fs).lookup g) (if g=f then some u else mA g)
  rw[j4d]
  by_cases q:g=f
  ·rw[if_pos q,if_pos q];exact ry
  ·rw[if_neg q,if_neg q];exact r g
 ·by_cases q:g=f
  ·rw[q];exact (j4m f y fs).1
  ·refine (j4m f y fs).2 g (wi g fun z=>hg ?_)
   show (if g=f then some u else mA g)=none
   rw[if_neg q];exact z
theorem Inv.made (I:Inv X pins σ H s):Inv X pins σ (upd (upd H s.heap.objs.size (.own (s.heap.objs.size+1))) (s.heap.objs.size+1) (.ins C s.heap.objs.size []))
  { s with heap:=(s.heap.push PySem.W.emptyDict).push (PySem.W.instObj C s.heap.objs.size) }:=by
 have e1:(s.heap.push PySem.W.emptyDict).get? s.heap.objs.size=some PySem.W.emptyDict:=Heap.get?_push_size s.heap rfl
 have e2:((s.heap.push PySem.W.emptyDict).push (PySem.W.instObj C s.heap.objs.size)).get? (s.heap.objs.size+1)=some (PySem.W.instObj C s.heap.objs.size):=by
  have:=Heap.get?_push_size (s.heap.push PySem.W.emptyDict) (o:=PySem.W.instObj C s.heap.objs.size) rfl
  rwa [Heap.size_push] at this
 have e3:(s.heap.push PySem.W.emptyDict).Ns s.heap.objs.size (fun _=>none):=⟨PySem.W.emptyDict,#[],_,e1,rfl,(fun e he=>absurd he (by simp)),fun _=>rfl⟩
 have I1:=I.laid (a:=s.heap.objs.size) (o:=.own (s.heap.objs.size+1)) (h':=s.heap.push PySem.W.emptyDict) (t':=s.toks) (fun b u q=>Heap.get?_push_of_some _ q) (Nat.le_refl _) ⟨_,e1⟩
 refine I1.laid (a:=s.heap.objs.size+1) (o:=.ins C s.heap.objs.size []) (t':=s.toks) (fun b u q=>Heap.get?_push_of_some _ q) (Nat.le_of_eq (Heap.size_push _ _)) ?_
 have ne:s.heap.objs.size≠s.heap.objs.size+1:=Nat.ne_of_lt (Nat.lt_succ_self _)
 refine⟨by rw[j0e ne,j0a],Nat.zero_le _,ne,e2,fun _=>none,(Heap.Ns1.of_empty e3).at fun o q=>Heap.get?_push_of_some _ q,fun _=>True.intro,fun y hy=>absurd rfl hy⟩
theorem jct {prog:Program}{w:World}{env:Env}{e:Expr}{f:Str}{pos:Pos}{s:Shared}{Q:Value→Shared→Prop} (hb:attributeBase e f env (eval e env)=eval e env)
  (h:wpAny (model prog w) A (eval e env) (fun o s₁=>wpAny (model prog w) A (getAttr o f true) Q E s₁) E s):wpAny (model prog w) A (eval (.Attribute e f pos) env) Q E s :=
 Attribute_any_ h (by rw[arm_eval_Attribute,hb])
end
def tFld (K:PySem.W.Frag) (ta:TE) (f:Str):TE:=fun σ H Q=>ta σ H fun x H1=>∃ a C dx fs v,x=.ref a∧H1 a=some (.ins C dx fs)∧Cls K C∧NoAttr K C f∧fs.lookup f=some v∧Q v H1
def sFld (K:PySem.W.Frag) (ta tv:TE) (f:Str):TS:=fun D σ H=>tv σ H fun y H1=>ta σ H1 fun x H2=>∃ a C dx fs,x=.ref a∧H2 a=some (.ins C dx fs)∧Cls K C∧NoAttr K C f∧fs.length < 1000 ∧
 D.nx σ (upd H2 a (.ins C dx (putF f y fs)))
section
variable {X:Cx}{o e value:Expr}{f:Str}{pos pos' tpos:Pos}{ta tv:TE}
theorem j2d (he:PE X e ta) (hb:attributeBase e f X.env (eval e X.env)=eval e X.env):PE X (.Attribute e f pos) (tFld X.K ta f):=by
 intro pins s σ H Q I h
 refine jct hb (thn (he pins s σ H _ I h) fun u s1 ⟨x,H1,I1,rx,a,C,dx,fs,v,ex,ea,c,n,l,q⟩=>?_)
 subst ex
 obtain rfl:u=Value.ref a:=rx
 exact j93 I1 ea c n l fun u' s2 I2 ru=>⟨v,H1,I2,ru,q⟩
theorem j1b (ha:PE X o ta) (hv:PE X value tv) (hs:swapsWith value (some (.Attribute o f pos')) pos.line X.env=pure false):PS X (.Assign [.Attribute o f pos'] value pos) (sFld X.K ta tv f):=by
 intro pins s σ H D I h
 refine plainObj_wpAny_Assign_Attribute (thn (hv pins s σ H _ I h) fun u s1 ⟨y,H1,I1,ry,q⟩=>thn (ha pins s1 σ H1 _ I1 q) fun ov s2 ⟨x,H2,I2,rx,a,C,dx,fs,ex,ea,c,n,l,q2⟩=>?_) hs
 subst ex
 obtain rfl:ov=Value.ref a:=rx
 exact j94 I2 ea c n l ry fun s3 I3=>⟨σ,_,I3,q2⟩
end
section
variable {X:Cx}{pins:List (Addr × Obj)}{σ:St}{H:Hp}{s:Shared}{A:Around}{E:Value→Shared→Prop}{Q:Value→Shared→Prop}{c:Value}{b:Bool}
inductive TyOf (K:PySem.W.Frag) (H:Hp):V→Value→Prop where
 | non:TyOf K H .non (.type "NoneType")
 | bl (x:Bool):TyOf K H (.bl x) (.type "bool")
 | int (i:Int):TyOf K H (.int i) (.type "int")
 | str (x:Str):TyOf K H (.str x) (.type "str")
 | flt (x:UInt64):TyOf K H (.flt x) (.type "float")
 | lst {a:Addr}{xs:List V} (e:H a=some (.lst xs)):TyOf K H (.ref a) (.type "list")
 | frz {a:Addr}{o:Obj}{xs:List V} (e:H a=some (.frz o (.lst xs))):TyOf K H (.ref a) (.type "list")
 | tup {a:Addr}{xs:List V} (e:H a=some (.tup xs)):TyOf K H (.ref a) (.type "tuple")
 | dK {a:Addr}{kvs:List (Key × V)} (e:H a=some (.dK kvs)):TyOf K H (.ref a) (.type "dict")
 | dT {a:Addr}{kvs:List (List Key × V)} (e:H a=some (.dT kvs)):TyOf K H (.ref a) (.type "dict")
 | ins {a C dx:Addr}{fs:List (Str × V)} (e:H a=some (.ins C dx fs)) (cl:Cls K C) (ha:PySem.W.findIn K (.ref C) "__class__"=some (some (.builtin "object.__class__")))
   (hn:PySem.W.specialIn K (.builtin "object.__class__") "__get__"=some (some (.builtin "getset_descriptor.__get__"))) (htk:PySem.W.takesIn K (.builtin "object.__class__")=some true)
   (hm:PySem.W.mroIn K C (.type "object")=some true):TyOf K H (.ref a) (.ref C)
theorem j7e {x:V}{u t:Value} (I:Inv X pins σ H s) (rx:RelV x u) (ty:TyOf X.K H x t) (e:PySem.W.kitOne X.K t c=some b) (h:∀ tk,Q (.bool b) { s with toks:=tk }) :
  wpAny (model X.prog X.w) A (call (.builtin "isinstance") [u,c]) Q E s:=by
 cases ty with
 | non=>cases (show u=Value.none from rx);exact PySem.W.kia_one PySem.W.kitx_none I.kIn True.intro e (fun z=>nomatch z) h
 | bl y=>cases (show u=Value.bool y from rx);exact PySem.W.kia_one PySem.W.kitx_bool I.kIn True.intro e (fun z=>nomatch z) h
 | int i=>obtain⟨t,q⟩:=(show ∃ t,u=Value.int i t from rx);cases q;exact PySem.W.kia_one PySem.W.kitx_int I.kIn True.intro e (fun z=>nomatch z) h
 | str y=>obtain⟨t,q⟩:=(show ∃ t,u=Value.str y t from rx);cases q;exact PySem.W.kia_one PySem.W.kitx_str I.kIn True.intro e (fun z=>nomatch z) h
 | flt y=>obtain⟨t,q⟩:=(show ∃ t,u=Value.float y t from rx);cases q;exact PySem.W.kia_one PySem.W.kitx_float I.kIn True.intro e (fun z=>nomatch z) h
 | @lst a xs ea =>
  cases (show u=Value.ref a from rx)
  obtain⟨_,_,n,_,h1⟩:=(show ObjOk X.prog X.w H s.heap a (.lst xs) from I.hok a _ ea)
  exact PySem.W.kia_one PySem.W.kitx_list I.kIn ⟨_,h1,rfl⟩ e (fun z=>nomatch z) h
 | @frz a ob xs ea =>
  cases (show u=Value.ref a from rx)
  obtain⟨_,_,_,n,_,h1⟩:=(show ObjOk X.prog X.w H s.heap a (.frz ob (.lst xs)) from I.hok a _ ea)
  exact PySem.W.kia_one PySem.W.kitx_list I.kIn ⟨_,h1,rfl⟩ e (fun z=>nomatch z) h
 | @tup a xs ea =>
  cases (show u=Value.ref a from rx)
  obtain⟨_,_,_,p⟩:=(show ObjOk X.prog X.w H s.heap a (.tup xs) from I.hok a _ ea)
  obtain⟨o,h1,h2,_⟩:=p.1
  exact PySem.W.kia_one PySem.W.kitx_tuple I.kIn ⟨o,h1,h2⟩ e (fun z=>nomatch z) h
 | @dK a kvs ea =>
  cases (show u=Value.ref a from rx)
  obtain⟨_,_,vs,_,p⟩:=(show ObjOk X.prog X.w H s.heap a (.dK kvs) from I.hok a _ ea)
  obtain⟨o,es,ep,h1,h2,_⟩:=p
  exact PySem.W.kia_one PySem.W.kitx_dict I.kIn ⟨o,h1,h2.1⟩ e (fun z=>nomatch z) h
 | @dT a kvs ea =>
  cases (show u=Value.ref a from rx)
  obtain⟨_,_,xs,_,o,es,ep,h1,h2,_⟩:=(show ObjOk X.prog X.w H s.heap a (.dT kvs) from I.hok a _ ea)
  exact PySem.W.kia_one PySem.W.kitx_dict I.kIn ⟨o,h1,h2.1⟩ e (fun z=>nomatch z) h
 | @ins a C dx fs ea cl ha hn htk hm =>
  cases (show u=Value.ref a from rx)
  obtain⟨mA,O,_⟩:=j7d I.hok ea
  obtain⟨od,J,_⟩:=O.look
  exact PySem.W.kia_one (PySem.W.kitx_own (cl.get _) cl.hd ha hn htk hm) I.kIn J e (fun z=>nomatch z) h
end
structure Room (k:Nat) (A:Around):Prop where
 hd:A.handled=none
 dp:A.depth+3 * k+5 < recursionLimit
 un:A.units+16 * k+200 < cLine
 gd:A.guards=some []
theorem Room.mono {j k:Nat}{A:Around} (r:Room k A) (h:j≤k):Room j A:=⟨r.hd,by have:=r.dp;omega,by have:=r.un;omega,r.gd⟩
theorem Room.deeper {k:Nat}{A:Around} (r:Room (k+1) A) (env:Env):Room k (A.deeper env) :=
 ⟨r.hd,by have:=r.dp;show A.depth+1+3 * k+5 < _;omega,by have:=r.un;show A.units+3+16 * k+200 < _;omega,r.gd⟩
theorem j95 {A:Around}{C:Addr}{us:List Value}{kw:List (Str × Value)}:(A.under (.builtin "type.__call__" ⟨.ref C :: us,kw⟩)).depth=A.depth+1:=by
 first | rfl | simp[Around.under,Code.weight,Code.isCreation,Code.isGuard,Code.isCaller,Code.frames,Code.isFrame,guardIds]
theorem j96 {A:Around}{C:Addr}{us:List Value}{kw:List (Str × Value)}:(A.under (.builtin "type.__call__" ⟨.ref C :: us,kw⟩)).units=A.units+1:=by
 first | rfl | simp[Around.under,Code.cUnits,Code.frames,Code.isFrame]
theorem j8b {A:Around}{C:Addr}{us:List Value}{kw:List (Str × Value)}:(A.under (.builtin "type.__call__" ⟨.ref C :: us,kw⟩)).guards=A.guards:=by
 have hg:(Code.builtin "type.__call__" ⟨.ref C :: us,kw⟩).guards=[]:=by first | rfl | simp[Code.guards,Code.isGuard,guardIds]
 show pushGuards (Code.builtin "type.__call__" ⟨.ref C :: us,kw⟩).guards A.guards=A.guards
 rw[hg]
 cases A.guards <;> rfl
theorem Room.make {k:Nat}{A:Around} (r:Room (k+1) A) (C:Addr) (us:List Value) (kw:List (Str × Value)):Room k (A.under (.builtin "type.__call__" ⟨.ref C :: us,kw⟩)) :=
 ⟨r.hd,by have:=r.dp;rw[j95];omega,by have:=r.un;rw[j96];omega,by rw[j8b];exact r.gd⟩
theorem Room.depth {k:Nat}{A:Around} (r:Room k A):A.depth < recursionLimit:=by have:=r.dp;omega
theorem Room.units {k:Nat}{A:Around} (r:Room k A):A.units+64 < cLine:=by have:=r.un;omega
def tNil:TA:=fun _ H Q=>Q [] H
def tCons (ta:TE) (tr:TA):TA:=fun σ H Q=>ta σ H fun x H1=>tr σ H1 fun xs H2=>Q (x :: xs) H2
section
variable {X:Cx}{e:Expr}{es:List Expr}{te:TE}{t:TA}{pos:Pos}
theorem j01:PA X [] tNil:=fun _ _ _ _ H Q I h=>Calls.spliced_nil ⟨[],H,I,.nil,h⟩
theorem j00 (ha:PE X e te) (hr:PA X es t) (hs:starEach (e :: es) X.env=(false,eval e X.env) :: starEach es X.env:=by rfl):PA X (e :: es) (tCons te t):=by
 intro pos pins s σ H Q I h
 rw[hs]
 show wpAny _ _ (spliced ((false,eval e X.env) :: backTo pos (starEach es X.env))) _ _ s
 refine Calls.spliced_cons (thn (ha pins s σ H _ I h) fun u s1 ⟨x,H1,I1,r1,q1⟩=>?_)
 exact thn (hr pos pins s1 σ H1 _ I1 q1) fun us s2 ⟨xs,H2,I2,r2,q2⟩=>⟨x :: xs,H2,I2,.cons r1 r2,q2⟩
def tTup (t:TA):TE:=fun σ H Q=>t σ H fun xs H1=>xs.length≤sizeLine∧∀ p,H1 p=none→Q (.ref p) (upd H1 p (.tup xs))
def tLst (t:TA):TE:=fun σ H Q=>t σ H fun xs H1=>xs.length≤sizeLine∧∀ p,H1 p=none→Q (.ref p) (upd H1 p (.lst xs))
theorem j2e {x1} (h:PA X es t):PE X (.Tuple es x1 pos) (tTup t):=by
 intro pins s σ H Q I hq
 refine wpAny_Tuple_spliced (thn (h pos pins s σ H _ I hq) fun us s1 ⟨xs,H1,I1,r,z,q⟩=>⟨by rw[← r.length];exact z,?_⟩)
 have hf:H1 s1.heap.objs.size=none:=I1.hok.fresh (Nat.le_refl _)
 refine⟨.ref s1.heap.objs.size,upd H1 s1.heap.objs.size (.tup xs),I1.laid (t':=s1.toks) (fun b u e=>Heap.get?_push_of_some _ e) (Nat.le_refl _) ?_,rfl,q _ hf⟩
 exact⟨z,us,r,TupN.new _ _⟩
theorem j0o (h:PA X es t):PE X (.List es pos) (tLst t):=by
 intro pins s σ H Q I hq
 refine wpAny_List_spliced (thn (h pos pins s σ H _ I hq) fun us s1 ⟨xs,H1,I1,r,z,q⟩=>⟨by rw[← r.length];exact z,?_⟩)
 have hf:H1 s1.heap.objs.size=none:=I1.hok.fresh (Nat.le_refl _)
 refine⟨.ref s1.heap.objs.size,upd H1 s1.heap.objs.size (.lst xs),I1.laid (t':=s1.toks) (fun b u e=>Heap.get?_push_of_some _ e) (Nat.le_refl _) ?_,rfl,q _ hf⟩
 exact⟨z,us,0,r,Heap.get?_push_size _ rfl⟩
end
abbrev Sp:=List V→Hp→VK→XK→Prop
abbrev CXT:=List Env→Hp→Shared→XK→Value→Shared→Prop
structure Env0 (P:Program) (w:World) (K:PySem.W.Frag) (mg:Str→Option Value) (base:Heap) (A:Around) (outer:List Env) (s:Shared) (H:Hp):Prop where
 frames:A.frames=some outer
 mod:Mod K mg base
 bs:∀ b o,base.get? b=some o→s.heap.get? b=some o∧H b=none
 bsz:base.objs.size≤s.heap.objs.size
 funs:s.heap.FunFrames base outer
 frf:∀ b∈frs outer,H b=none
 hok:HOk P w H s.heap
 bare:AllBare s.gens
def CE (outer:List Env) (P:Program) (w:World) (H:Hp) (s:Shared) (Q:VK) (u:Value) (s':Shared):Prop :=
 ∃ v H',s'.os=s.os∧AllBare s'.gens∧Un (frs outer) [] H H' s.heap s'.heap∧HOk P w H' s'.heap∧RelV v u∧Q v H'
def CR (CX:CXT) (outer:List Env) (P:Program) (w:World) (H:Hp) (s:Shared) (Q:VK) (E:XK) (r:Result) (s':Shared):Prop :=
 match r with
 | .ok (.ret u)=>CE outer P w H s Q u s'
 | .ok _=>False
 | .error e=>CX outer H s E e s'
structure FnOk (P:Program) (w:World) (K:PySem.W.Frag) (mg:Str→Option Value) (base:Heap) (CX:CXT) (k:Nat) (f:Addr) (fd:FuncData) (ps:List Str) (sp:Sp):Prop where
 len:∀ vs H Q E,sp vs H Q E→vs.length=ps.length
 run:∀ (A:Around) (outer:List Env) (s:Shared) (H:Hp) (args:Args) (us:List Value) (vs:List V) (Q:VK) (E:XK),Room k A→Env0 P w K mg base A outer s H→BindsTo s fd args (ps.zip us)→Vals vs us→sp vs H Q E →
  codeAny (model P w) A (.call (.ref f) args) (CR CX outer P w H s Q E) s
theorem Env0.make {P:Program}{w:World}{K:PySem.W.Frag}{mg:Str→Option Value}{base:Heap}{A:Around}{outer:List Env}{s:Shared}{H:Hp} (e:Env0 P w K mg base A outer s H) (C:Addr) (us:List Value) (kw:List (Str × Value)) :
  Env0 P w K mg base (A.under (.builtin "type.__call__" ⟨.ref C :: us,kw⟩)) outer s H:=⟨by first | exact e.frames | (simpa[Around.under,Code.envs,Code.isFrame,pushEnvs] using e.frames),e.mod,e.bs,e.bsz,e.funs,e.frf,e.hok,e.bare⟩
section
variable {X:Cx}{pins:List (Addr × Obj)}{σ:St}{H:Hp}{s s':Shared}
theorem Inv.env0 (I:Inv X pins σ H s):Env0 X.prog X.w X.K X.mg X.base X.A X.stack s H :=
 ⟨I.ok.frames,I.ok.mod,I.bs,Nat.le_trans I.ok.bsz I.sz,I.stack,I.stkFree,I.hok,I.bare⟩
theorem Inv.after {Q:VK}{u:Value} (I:Inv X pins σ H s) (h:CE X.stack X.prog X.w H s Q u s'):EP X pins σ Q u s':=by
 obtain⟨v,H',os,bare,un,hok,r,q⟩:=h
 obtain⟨hh,g,d,t,os'⟩:=s'
 obtain rfl:os'=s.os:=os
 exact⟨v,H',I.call (h':=hh) (g':=g) (d':=d) (t':=t) (ch:=[]) un hok bare (fun b z=>absurd z (by simp)),r,q⟩
end
def jin (sp:Sp) (dvs:List V) (E:XK) (t:TA):TE:=fun σ H Q=>t σ H fun vs H1=>sp (vs++dvs) H1 Q E
def jj4 (C:Addr) (m:Str) (sp:Sp) (dvs:List V) (E:XK) (ta:TE) (t:TA):TE:=fun σ H Q=>ta σ H fun x H1=>∃ a dx fs,x=.ref a∧H1 a=some (.ins C dx fs)∧fs.lookup m=none ∧
 t σ H1 fun vs H2=>sp (x :: (vs++dvs)) H2 Q E
def tMake (C:Addr) (sp:Sp) (dvs:List V) (E:XK) (t:TA):TE:=fun σ H Q=>t σ H fun vs H1=>∀ x dx,H1 x=none→H1 dx=none→dx≠x →
 sp (.ref x :: (vs++dvs)) (upd (upd H1 dx (.own x)) x (.ins C dx [])) (fun v H2=>v=.non∧Q (.ref x) H2) E
def Binds (K:PySem.W.Frag) (fd:FuncData) (ps:List Str) (ds:List Value):Prop :=
 ∀ (s:Shared) (us:List Value),K.In s.heap→(us++ds).length=ps.length→BindsTo s fd ⟨us,[]⟩ (ps.zip (us++ds))
theorem Binds.all {K:PySem.W.Frag}{fd:FuncData}{ps:List Str} (h:∀ us:List Value,us.length=ps.length→bindArgs fd ⟨us,[]⟩=pure (ps.zip us)):Binds K fd ps []:=fun s us _ hl=>by
 rw[List.append_nil] at hl ⊢
 exact .of_eq (h us hl)
def j2k (CX:CXT) (X:Cx) (E:XK):Prop:=∀ (pins:List (Addr × Obj)) (σ:St) (H:Hp) (s:Shared) (e:Value) (s':Shared),Inv X pins σ H s→CX X.stack H s E e s'→X.xe e s'
section
variable {X:Cx}{CX:CXT}{k:Nat}{f C:Addr}{fd:FuncData}{ps:List Str}{sp:Sp}{dvs:List V}{ds:List Value}{E:XK}{x m:Str}{p pos apos:Pos}{e o:Expr}{es:List Expr}{ta:TE}{t:TA}
theorem j97 {pins:List (Addr × Obj)}{σ:St}{H:Hp}{s:Shared}{Q:VK}{us:List Value}{vs:List V} (F:FnOk X.prog X.w X.K X.mg X.base CX k f fd ps sp) (hr:Room k X.A) (hb:Binds X.K fd ps ds) (hd:Vals dvs ds) (hx:j2k CX X E)
  (I:Inv X pins σ H s) (r:Vals vs us) (h:sp (vs++dvs) H Q E):wpAny (model X.prog X.w) X.A (call (.ref f) us) (EP X pins σ Q) X.xe s:=by
 have r2:Vals (vs++dvs) (us++ds):=r.append hd
 have hl:(us++ds).length=ps.length:=by rw[← r2.length];exact F.len _ _ _ _ h
 refine wpAny_call (codeAny_mono (F.run X.A X.stack s H ⟨us,[]⟩ (us++ds) (vs++dvs) Q E hr I.env0 (hb s us I.kIn hl) r2 h) fun r s' hq=>?_)
 cases r with
 | error e=>exact hx pins σ H s e s' I hq
 | ok fl =>
  cases fl with
  | ret u=>exact I.after hq
  | next=>exact False.elim hq
  | brk=>exact False.elim hq
  | cont=>exact False.elim hq
theorem j09 (F:FnOk X.prog X.w X.K X.mg X.base CX k f fd ps sp) (hr:Room k X.A) (hg:Gl X x) (hm:X.mg x=some (.ref f)) (hk:PySem.W.keepIn X.K (.ref f)=true) (hb:Binds X.K fd ps ds) (hd:Vals dvs ds) (hx:j2k CX X E)
  (ha:PA X (e :: es) t) (hdb:(x == ("__debug__":Str))=false:=by decide) (he:starEach (e :: es) X.env=(false,eval e X.env) :: starEach es X.env:=by rfl) (hpl:(backTo pos (starEach es X.env)).any (·.1)=false:=by rfl) :
  PE X (.Call (.Name x p) (e :: es) [] pos) (jin sp dvs E t):=by
 intro pins s σ H Q I h
 refine wpAny_Call_Name_kw (j2h I hg hm ?_ hdb)
 refine PySem.W.callWith_K (h₀:=X.base) I.ok.mod.kin hk (thn (ha pos pins s σ H _ I h) fun us s1 ⟨vs,H1,I1,r,q⟩=>⟨I1.kIn,?_⟩) he hpl
 exact j97 F hr hb hd hx I1 r q
theorem jdy (F:FnOk X.prog X.w X.K X.mg X.base CX k f fd ps sp) (hr:Room k X.A) (hg:Gl X x) (hm:X.mg x=some (.ref f)) (hk:PySem.W.keepIn X.K (.ref f)=true) (hb:Binds X.K fd ps ds) (hd:Vals dvs ds) (hx:j2k CX X E)
  (hdb:(x == ("__debug__":Str))=false:=by decide):PE X (.Call (.Name x p) [] [] pos) (jin sp dvs E tNil):=by
 intro pins s σ H Q I h
 refine wpAny_Call_Name_kw (j2h I hg hm ?_ hdb)
 exact PySem.W.callWith_K0 I.kIn hk (j97 (us:=[]) F hr hb hd hx I .nil h)
theorem j1z {pl:Sem Bool} (he:PE X o ta) (c:Cls X.K C) (hm:Meth X.K C m f) (F:FnOk X.prog X.w X.K X.mg X.base CX k f fd ps sp) (hr:Room k X.A) (hb:Binds X.K fd ps ds) (hd:Vals dvs ds) (hx:j2k CX X E) (ha:PA X (e :: es) t)
  (hst:starEach (e :: es) X.env=(false,eval e X.env) :: starEach es X.env:=by rfl) (hpl:(backTo pos (starEach es X.env)).any (·.1)=false:=by rfl)
  (ht:eval (.Call (.Attribute o m apos) (e :: es) [] pos) X.env=(do
   let ov ← eval o X.env
   standAt apos.atName
   let (f,first) ← holding [ov] (getMethod ov m pl)
   callWith pos f first (backTo pos (starEach (e :: es) X.env)) (backToKw pos (keywordEach [] X.env))):=by rfl) :
  PE X (.Call (.Attribute o m apos) (e :: es) [] pos) (jj4 C m sp dvs E ta t):=by
 intro pins s σ H Q I h
 refine PySem.W.methodCall_KW (pl:=pl) (thn (he pins s σ H _ I h) fun u s1 ⟨x,H1,I1,rx,a,dx,fs,ex,ea,l,q⟩=>?_) ht
 subst ex
 obtain rfl:u=Value.ref a:=rx
 refine j5e I1 ea c hm l ?_
 refine PySem.W.callWith_K (first:=[.ref a]) (h₀:=X.base) I.ok.mod.kin hm.kp (thn (ha pos pins s1 σ H1 _ I1 q) fun us s2 ⟨vs,H2,I2,r,q2⟩=>⟨I2.kIn,?_⟩) hst hpl
 exact j97 (us:=.ref a :: us) (vs:=.ref a :: vs) F hr hb hd hx I2 (.cons rfl r) q2
theorem j2s {pl:Sem Bool} (he:PE X o ta) (c:Cls X.K C) (hm:Meth X.K C m f) (F:FnOk X.prog X.w X.K X.mg X.base CX k f fd ps sp) (hr:Room k X.A) (hb:Binds X.K fd ps ds) (hd:Vals dvs ds) (hx:j2k CX X E)
  (ht:eval (.Call (.Attribute o m apos) [] [] pos) X.env=(do
   let ov ← eval o X.env
   standAt apos.atName
   let (f,first) ← holding [ov] (getMethod ov m pl)
   callWith pos f first (backTo pos (starEach [] X.env)) (backToKw pos (keywordEach [] X.env))):=by rfl) :
  PE X (.Call (.Attribute o m apos) [] [] pos) (jj4 C m sp dvs E ta tNil):=by
 intro pins s σ H Q I h
 refine PySem.W.methodCall_KW (pl:=pl) (thn (he pins s σ H _ I h) fun u s1 ⟨x,H1,I1,rx,a,dx,fs,ex,ea,l,q⟩=>?_) ht
 subst ex
 obtain rfl:u=Value.ref a:=rx
 refine j5e I1 ea c hm l ?_
 exact PySem.W.callWith_K0 (first:=[.ref a]) I1.kIn hm.kp (j97 (us:=[.ref a]) (vs:=[.ref a]) F hr hb hd hx I1 (.cons rfl .nil) q)
structure Mk (K:PySem.W.Frag) (C f:Addr):Prop where
 makes:PySem.W.makesIn K C=true
 init:PySem.W.findIn K (.ref C) "__init__"=some (some (.ref f))
 fn:PySem.W.isFn K (.ref f)=true
 kp:PySem.W.keepIn K (.ref C)=true
theorem jdz {pins:List (Addr × Obj)}{σ:St}{H:Hp}{s:Shared}{Q:VK}{us:List Value}{vs:List V} (M:Mk X.K C f) (F:FnOk X.prog X.w X.K X.mg X.base CX k f fd ps sp) (hr:Room (k+1) X.A) (hb:Binds X.K fd ps ds) (hd:Vals dvs ds)
  (hx:j2k CX X E) (I:Inv X pins σ H s) (r:Vals vs us)
  (h:∀ x dx,H x=none→H dx=none→dx≠x→sp (.ref x :: (vs++dvs)) (upd (upd H dx (.own x)) x (.ins C dx [])) (fun v H2=>v=.non∧Q (.ref x) H2) E) :
  wpAny (model X.prog X.w) X.A (call (.ref C) us) (EP X pins σ Q) X.xe s:=by
 have hq:=h (s.heap.objs.size+1) s.heap.objs.size (I.hok.fresh (Nat.le_succ _)) (I.hok.fresh (Nat.le_refl _)) (Nat.ne_of_lt (Nat.lt_succ_self _))
 have I2:=Inv.made (C:=C) I
 have r2:Vals (V.ref (s.heap.objs.size+1) :: (vs++dvs)) (Value.ref (s.heap.objs.size+1) :: (us++ds)):=.cons rfl (r.append hd)
 have hl:(Value.ref (s.heap.objs.size+1) :: us++ds).length=ps.length:=by
  have e:=r2.length
  rw[F.len _ _ _ _ hq] at e
  exact e.symm
 refine wpAny_call (jdx (f:=f) I.kIn M.makes M.init (beq_iff_eq.mp M.fn) (codeAny_mono (F.run _ X.stack _ _ ⟨Value.ref (s.heap.objs.size+1) :: us,[]⟩ (Value.ref (s.heap.objs.size+1) :: (us++ds)) _ _ E (hr.make C us [])
  (I2.env0.make C us []) (hb _ (Value.ref (s.heap.objs.size+1) :: us) I2.kIn hl) r2 hq) fun r s' hq'=>?_))
 cases r with
 | error e=>exact hx pins σ _ _ e s' I2 hq'
 | ok fl =>
  cases fl with
  | ret u =>
   obtain⟨v,H',I3,rv,ev,q3⟩:=I2.after hq'
   subst ev
   exact⟨rv,⟨V.ref (s.heap.objs.size+1),H',I3,rfl,q3⟩⟩
  | next=>exact False.elim hq'
  | brk=>exact False.elim hq'
  | cont=>exact False.elim hq'
theorem j20 (M:Mk X.K C f) (F:FnOk X.prog X.w X.K X.mg X.base CX k f fd ps sp) (hr:Room (k+1) X.A) (hg:Gl X x) (hm:X.mg x=some (.ref C)) (hb:Binds X.K fd ps ds) (hd:Vals dvs ds) (hx:j2k CX X E)
  (ha:PA X (e :: es) t) (hdb:(x == ("__debug__":Str))=false:=by decide) (he:starEach (e :: es) X.env=(false,eval e X.env) :: starEach es X.env:=by rfl) (hpl:(backTo pos (starEach es X.env)).any (·.1)=false:=by rfl) :
  PE X (.Call (.Name x p) (e :: es) [] pos) (tMake C sp dvs E t):=by
 intro pins s σ H Q I h
 refine wpAny_Call_Name_kw (j2h I hg hm ?_ hdb)
 refine PySem.W.callWith_K (h₀:=X.base) I.ok.mod.kin M.kp (thn (ha pos pins s σ H _ I h) fun us s1 ⟨vs,H1,I1,r,q⟩=>⟨I1.kIn,?_⟩) he hpl
 exact jdz M F hr hb hd hx I1 r q
end
section
variable {X:Cx}{CX:CXT}{k:Nat}{f C:Addr}{fd:FuncData}{ps ks:List Str}{sp:Sp}{E:XK}{x m:Str}{p pos apos kpos:Pos}{e o:Expr}{es:List Expr}{kws:List Keyword}{te ta:TE}{t tk:TA}{nm:Option Str}
structure KBinds (K:PySem.W.Frag) (fd:FuncData) (ps ks:List Str) (g:List Value→List Value→List Value) (gV:List V→List V→List V):Prop where
 to:∀ (s:Shared) (us ws:List Value),K.In s.heap→(g us ws).length=ps.length→BindsTo s fd ⟨us,ks.zip ws⟩ (ps.zip (g us ws))
 rel:∀ {vs:List V}{us:List Value}{zs:List V}{ws:List Value},Vals vs us→Vals zs ws→Vals (gV vs zs) (g us ws)
variable {g:List Value→List Value→List Value}{gV:List V→List V→List V}
end
structure FnScope (N P:List Str) (sc:Scope):Prop where
 kind:sc.kind=.function
 co:sc.isCoroutine=false
 gen:sc.isGenerator=false
 nd:N.Nodup
 pre:N.take P.length=P
 par:∀ x∈P,sc.names.lookup x=some .local∨sc.names.lookup x=some .cell
 nofree:∀ y∈sc.names,y.2≠.free
theorem j7f {kindOf:Str→Option NameKind}{x:Str}:∀ {binds:List (Str × Value)}{m:Str→Option Value},(∀ v,(x,v)∉binds)→bindL kindOf binds m x=m x
 | [],_,_=>rfl
 | (n,v) :: r,m,h=>by
  unfold bindL
  rw[j7f fun w hw=>h w (List.mem_cons_of_mem _ hw)]
  split
  ·have:x≠n:=by rintro rfl;exact h v List.mem_cons_self
   simp[this]
  ·rfl
theorem j7g {kindOf:Str→Option NameKind}{x:Str}:∀ {binds:List (Str × Value)}{m:Str→Option Value},(∀ v,(x,v)∉binds)→bindC kindOf binds m x=m x
 | [],_,_=>rfl
 | (n,v) :: r,m,h=>by
  unfold bindC
  rw[j7g fun w hw=>h w (List.mem_cons_of_mem _ hw)]
  split
  ·rfl
  ·have:x≠n:=by rintro rfl;exact h v List.mem_cons_self
   simp[this]
theorem j7h {kindOf:Str→Option NameKind}{x:Str}{v:Value}:∀ {P:List Str}{vs:List Value}{i:Nat}{m:Str→Option Value},P.Nodup→P[i]?=some x→vs[i]?=some v→kindOf x=some .local →
  bindL kindOf (P.zip vs) m x=some v
 | [],_,_,_,_,h,_,_=>by simp at h
 | _ :: _,[],_,_,_,_,h,_=>by simp at h
 | p :: P,w :: vs,0,m,nd,h1,h2,hk=>by
  simp at h1 h2;subst h1;subst h2
  show bindL kindOf ((p,w) :: P.zip vs) m p=_
  unfold bindL
  rw[j7f fun v hv=>(List.nodup_cons.mp nd).1 (List.of_mem_zip hv).1,if_pos hk]
  simp
 | p :: P,w :: vs,i+1,m,nd,h1,h2,hk=>by
  show bindL kindOf ((p,w) :: P.zip vs) m x=_
  unfold bindL
  exact j7h (i:=i) (List.nodup_cons.mp nd).2 (by simpa using h1) (by simpa using h2) hk
theorem j7i {kindOf:Str→Option NameKind}{x:Str}{v:Value}:∀ {P:List Str}{vs:List Value}{i:Nat}{m:Str→Option Value},P.Nodup→P[i]?=some x→vs[i]?=some v→kindOf x≠some .local →
  bindC kindOf (P.zip vs) m x=some v
 | [],_,_,_,_,h,_,_=>by simp at h
 | _ :: _,[],_,_,_,_,h,_=>by simp at h
 | p :: P,w :: vs,0,m,nd,h1,h2,hk=>by
  simp at h1 h2;subst h1;subst h2
  show bindC kindOf ((p,w) :: P.zip vs) m p=_
  unfold bindC
  rw[j7g fun v hv=>(List.nodup_cons.mp nd).1 (List.of_mem_zip hv).1,if_neg hk]
  simp
 | p :: P,w :: vs,i+1,m,nd,h1,h2,hk=>by
  show bindC kindOf ((p,w) :: P.zip vs) m x=_
  unfold bindC
  exact j7i (i:=i) (List.nodup_cons.mp nd).2 (by simpa using h1) (by simpa using h2) hk
def start (N:List Str) (vs:List V):St:=vs.map some++List.replicate (N.length-vs.length) none
def cxOf (CX:CXT) (P:Program) (w:World) (K:PySem.W.Frag) (mg:Str→Option Value) (base:Heap) (N:List Str) (qual:Str) (scope:Scope) (f:Addr) (cd:Value) (A:Around) (outer:List Env) (s:Shared) (H:Hp) (E:XK):Cx where
 prog:=P
 w:=w
 K:=K
 mg:=mg
 base:=base
 A:=A.deeper (envOfC qual scope s.heap.objs.size f cd)
 N:=N
 s₀:=s
 H₀:=H
 env:=envOfC qual scope s.heap.objs.size f cd
 outer:=outer
 stack:=envOfC qual scope s.heap.objs.size f cd :: outer
 ex:=[]
 calm:=true
 fn:=fun _=>true
 pn:=[]
 xe:=fun e s'=>wpAny (model P w) (A.deeper (envOfC qual scope s.heap.objs.size f cd)) (leaving (envOfC qual scope s.heap.objs.size f cd) e) (fun _ s''=>CX outer H s E e s'') (fun e' s''=>CX outer H s E e' s'') s'
theorem j98 {sc:Scope}{n:Nat}{x:Str} (h:sc.names.lookup x=some .cell):∃ c,(cellsFrom n sc.names []).lookup x=some c:=by
 have q:=PySem.W.cellsFrom_some sc.names n [] (.inl h)
 exact Option.isSome_iff_exists.mp q
theorem jba {CX:CXT}{P:Program}{w:World}{K:PySem.W.Frag}{mg:Str→Option Value}{base:Heap}{N ps:List Str}{qual:Str}{scope:Scope}{f:Addr}{cd:Value}{A:Around}{outer:List Env}{s s1:Shared}{H:Hp}{E:XK}{us:List Value}{vs:List V}
  (S:FnScope N ps scope) (hd:A.handled=none) (e0:Env0 P w K mg base A outer s H) (hl:vs.length=ps.length) (r:Vals vs us)
  (x:InCallC s s.heap.objs.size (bindL (envOfC qual scope s.heap.objs.size f cd).kindOf (ps.zip us) fun _=>none) (cellsFrom (s.heap.objs.size+1) scope.names []) (bindC (envOfC qual scope s.heap.objs.size f cd).kindOf (ps.zip us) fun _=>none) s1) :
  Inv (cxOf CX P w K mg base N qual scope f cd A outer s H E) [] (start N vs) H s1:=by
 have hpl:ps.length≤N.length:=by have:=congrArg List.length S.pre;rw[List.length_take] at this;omega
 obtain⟨h1,tk,rfl,hk⟩:=x.done
 have noA:∀ b:Addr,b∉(cxOf CX P w K mg base N qual scope f cd A outer s H E).ex:=fun b z=>absurd (show b∈([]:List Addr) from z) (by simp)
 refine⟨⟨e0.mod,S.kind,rfl,rfl,Nat.le_refl _,fun y z c h1 h2=>?_,fun y hy=>?_,fun y c _ h=>?_,fun _=>hd,Around.frames_deeper e0.frames,.inr ⟨rfl,rfl⟩,fun b z=>absurd z (noA b),e0.bs,e0.bsz,fun b _ _=>noA b,fun b z=>absurd z (noA b),e0.funs,e0.frf⟩,
  rfl,e0.bare,Un.kept hk,⟨_,x.toInCall.ns,fun i y v h1 h2 h3=>?_⟩,fun y c h=>⟨_,x.cell y c h⟩,e0.hok.fresh (Nat.le_refl _),fun y c h=>?_,fun p hp=>absurd (show p∈([]:List (Addr × Obj)) from hp) (by simp),e0.hok.kept hk,?_⟩
 ·exact name_of_addr x.apart (PySem.mem_of_lookup h1) (PySem.mem_of_lookup h2)
 ·have hy:scope.names.lookup y=some .cell∨scope.names.lookup y=some .free:=hy
  rcases hy with hy | hy
  ·exact j98 hy
  ·exact absurd rfl (S.nofree _ (PySem.mem_of_lookup hy))
 ·exact Nat.le_of_lt (x.above y c (PySem.mem_of_lookup h))
 ·have hi:i < vs.length:=by
   unfold start at h2
   by_cases hi:i < vs.length
   ·exact hi
   ·rw[List.getElem?_append_right (by simpa using hi)] at h2
    rw[List.getElem?_replicate] at h2
    split at h2 <;> cases h2
  have ha:vs[i]?=some v:=by
   unfold start at h2
   rw[List.getElem?_append_left (by simpa using hi),List.getElem?_map] at h2
   cases e:vs[i]? with
   | none=>rw[e] at h2;cases h2
   | some a=>rw[e] at h2;cases h2;rfl
  obtain⟨u,hu,rv⟩:=r.get ha
  have hp:ps[i]?=some y:=by
   rw[← S.pre,List.getElem?_take_of_lt (by omega)];exact h1
  have ndP:ps.Nodup:=by rw[← S.pre];exact S.nd.sublist (List.take_sublist _ _)
  refine⟨u,rv,?_⟩
  rcases S.par y (List.mem_of_getElem? hp) with k | k
  ·exact .inl ⟨k,j7h ndP hp hu k⟩
  ·obtain⟨c,e⟩:=j98 (n:=s.heap.objs.size+1) k
   refine .inr ⟨.inl k,c,e,?_⟩
   have q:=x.cell y c e
   rw[j7i ndP hp hu (by show scope.names.lookup y≠_;rw[k];decide)] at q
   exact q
 ·exact e0.hok.fresh (Nat.le_of_lt (x.above y c (PySem.mem_of_lookup h)))
 ·unfold start
  show _=N.length
  rw[List.length_append,List.length_map,List.length_replicate]
  omega
theorem jio {CX:CXT}{P:Program}{w:World}{K:PySem.W.Frag}{mg:Str→Option Value}{base:Heap}{k:Nat}{f:Addr}{name qual:Str}{params:Arguments}{body:List Stmt}{scope:Scope}{dV kV doc pm cdv ct oc:Value}{an od:Option Addr}
  {osl:Array (Option Value)}{N ps:List Str}{sp:Sp} (lk:K.lookup f=some ⟨oc,od,.func (PySem.W.fnOf name qual params body scope dV kV doc pm an cdv ct),osl⟩) (hcd:PySem.W.codeIn K cdv qual=true) (S:FnScope N ps scope)
  (len:∀ vs H Q E,sp vs H Q E→vs.length=ps.length)
  (hbody:∀ (A:Around) (outer:List Env) (s:Shared) (H:Hp) (vs:List V) (Q:VK) (E:XK),Room k (A.deeper (envOfC qual scope s.heap.objs.size f cdv))→sp vs H Q E →
   ∃ t,PSs (cxOf CX P w K mg base N qual scope f cdv A outer s H E) body t∧t { nx:=fun _ H'=>Q .non H',rt:=Q } (start N vs) H) :
  FnOk P w K mg base CX (k+1) f (PySem.W.fnOf name qual params body scope dV kV doc pm an cdv ct) ps sp:=by
 refine⟨len,fun A outer s H args us vs Q E hr e0 hb r hsp=>?_⟩
 have hl:=len _ _ _ _ hsp
 have KX:K.In s.heap:=e0.mod.kin.keeps fun b o e=>(e0.bs b o e).1
 have lim:s.heap.NoLimit:=e0.mod.nolimit.keeps fun b o e=>(e0.bs b o e).1
 have hkind:∀ y∈ps.zip us,scope.names.lookup y.1=some .local∨(scope.names.lookup y.1=some .cell∧((cellsFrom (s.heap.objs.size+1) scope.names []).lookup y.1).isSome=true):=fun⟨n,v⟩ hy=>by
  rcases S.par n (List.of_mem_zip hy).1 with q | q
  ·exact .inl q
  ·exact .inr ⟨q,PySem.W.cellsFrom_some _ _ _ (.inl q)⟩
 refine codeAny_call_function hr.depth (KX _ _ lk) rfl S.co S.gen rfl (PySem.W.codeRec_of KX hcd) (hb _ _ _ _ ?_)
 refine wpAny_newFunctionEnv_cells S.kind hkind fun env he s1 x=>?_
 subst he
 refine⟨lim.keeps x.toInCall.keep,codeAny_func ?_⟩
 obtain⟨t,ht,hq⟩:=hbody A outer s H vs Q E (hr.deeper _) hsp
 have I:Inv (cxOf CX P w K mg base N qual scope f cdv A outer s H E) [] (start N vs) H s1:=jba S hr.hd e0 hl r x
 refine wpAny_mono (ht [] s1 (start N vs) H _ I hq) (fun fl s' hs=>?_) fun e s' hs=>hs
 have fin:∀ {σ':St}{H':Hp}{v:V}{u:Value},Inv (cxOf CX P w K mg base N qual scope f cdv A outer s H E) [] σ' H' s'→RelV v u→Q v H'→CE outer P w H s Q u s' :=
  fun {σ' H' v u} J rv q=>⟨v,H',J.os,J.bare,J.base,J.hok,rv,q⟩
 cases fl with
 | ret u =>
  obtain⟨v,σ',H',J,rv,q⟩:=hs
  exact fin J rv q
 | next =>
  obtain⟨σ',H',J,q⟩:=hs
  exact fin (v:=V.non) (u:=Value.none) J rfl q
 | brk =>
  obtain⟨_,_,_,q⟩:=hs
  exact False.elim q
 | cont =>
  obtain⟨_,_,_,q⟩:=hs
  exact False.elim q
section
variable {X:Cx}{x:Str}{p pos:Pos}{e:Expr}{es:List Expr}{t:TA}{id T:String}{r:List V→Hp→VK→Prop}
def tCB (r:List V→Hp→VK→Prop) (t:TA):TE:=fun σ H Q=>t σ H fun vs H1=>r vs H1 Q
theorem j08 (hc:CallR X (.builtin id) r) (hg:Gl X x) (hm:X.mg x=none) (hv:bootBuiltins x=some (.builtin id)) (ha:PA X (e :: es) t) (hn:x≠"__name__":=by decide) (hdb:(x == ("__debug__":Str))=false:=by decide)
  (he:starEach (e :: es) X.env=(false,eval e X.env) :: starEach es X.env:=by rfl) (hpl:(backTo pos (starEach es X.env)).any (·.1)=false:=by rfl):PE X (.Call (.Name x p) (e :: es) [] pos) (tCB r t):=by
 intro pins s σ H Q I h
 refine wpAny_Call_Name_kw (j5a I hg hm hv ?_ hn hdb)
 exact PyProof.Rows.callWith_builtin1 (thn (ha pos pins s σ H _ I h) fun us s1 ⟨vs,H1,I1,r1,q1⟩=>hc pins s1 σ H1 vs us Q I1 r1 q1) he hpl
theorem j0n (hc:CallR X (.type T) r) (hg:Gl X x) (hm:X.mg x=none) (hv:bootBuiltins x=some (.type T)) (ha:PA X (e :: es) t) (hn:x≠"__name__":=by decide) (hdb:(x == ("__debug__":Str))=false:=by decide)
  (he:starEach (e :: es) X.env=(false,eval e X.env) :: starEach es X.env:=by rfl) (hpl:(backTo pos (starEach es X.env)).any (·.1)=false:=by rfl):PE X (.Call (.Name x p) (e :: es) [] pos) (tCB r t):=by
 intro pins s σ H Q I h
 refine wpAny_Call_Name_kw (j5a I hg hm hv ?_ hn hdb)
 exact PyProof.Rows.callWith_type1 (thn (ha pos pins s σ H _ I h) fun us s1 ⟨vs,H1,I1,r1,q1⟩=>hc pins s1 σ H1 vs us Q I1 r1 q1) he hpl
end
end L2
namespace HT
open PySem PyProof.Rows
section
open PySem.SeqAt
open PySem.AutoSeq1 (wpAny_loadPart')
open PySem.MeetsSeq PySem.MeetsSeq2 PySem.MeetsSeq3
end
section
variable {prog:Program}{w:World}{A:Around}{E:Value→Shared→Prop}{s:Shared}
theorem cat_tup {t b:Addr}{vs ws:List Value}{Q:Value→Shared→Prop} (ht:IsTup s.heap t vs.toArray) (hb:IsTup s.heap b ws.toArray) (hv:vs≠[])
  (h1:ws=[]→Q (.ref t) s) (h2:ws≠[]→Q (.ref s.heap.objs.size) { s with heap:=s.heap.push { cls:=.type "tuple",data:=.seq (vs++ws).toArray } })
  (hsz:vs.length+ws.length≤sizeLine):wpAny (model prog w) A (binaryOp .Add (.ref t) (.ref b)) Q E s:=by
 obtain⟨⟨cls,dd,data,sl⟩,ho,hc,n,hd⟩:=id ht
 obtain⟨⟨cls2,dd2,data2,sl2⟩,ho2,hc2,n2,hd2⟩:=id hb
 simp only at hc hd hc2 hd2
 subst hc hd hc2 hd2
 have e:vs.toArray++ws.toArray=(vs++ws).toArray:=by simp
 by_cases hw:ws=[]
 ·exact concat_meets ⟨_,ho,rfl⟩ ⟨_,ho2,rfl⟩ noFill_tuple_add seq_tuple_add PySem.F.slot_tuple_add PySem.F.entry_tuple_add (PySem.F.args_tuple_add_2 _ _)
   (tuple_addW1 t b vs.toArray ws.toArray n n2 dd dd2 sl sl2 (by simpa using hv) (by simp[hw])) ⟨ho,ho2,h1 hw⟩
 ·refine concat_meets ⟨_,ho,rfl⟩ ⟨_,ho2,rfl⟩ noFill_tuple_add seq_tuple_add PySem.F.slot_tuple_add PySem.F.entry_tuple_add (PySem.F.args_tuple_add_2 _ _)
   (tuple_addW2 t b vs.toArray ws.toArray n n2 dd dd2 sl sl2 (by simpa using hv) (by simpa using hw) (by rw[List.size_toArray,List.size_toArray];exact hsz)) ⟨ho,ho2,?_⟩
  rw[e]
  exact h2 hw
def sIx (n d:Nat):Option Int→Nat
 | none=>d
 | some v=>if v < 0 then (v+(n:Int)).toNat else min v.toNat n
theorem sIx_none (n d:Nat):sIx n d none=d:=rfl
theorem sIx_nat (n d k:Nat):sIx n d (some (k:Int))=min k n:=by
 show (if (k:Int) < 0 then ((k:Int)+(n:Int)).toNat else min (k:Int).toNat n)=min k n
 rw[if_neg (by omega),Int.toNat_natCast]
theorem sIx_le (n d:Nat) (hd:d≤n) (o:Option Int):sIx n d o≤n:=by
 cases o with
 | none=>exact hd
 | some v =>
  show (if v < 0 then (v+(n:Int)).toNat else min v.toNat n)≤n
  by_cases hv:v < 0
  ·rw[if_pos hv];omega
  ·rw[if_neg hv];exact Nat.min_le_right _ _
theorem jcu (v:Int) (n d:Nat):(if v < 0 then max (v+(n:Int)) 0 else min v (n:Int))=((sIx n d (some v):Nat):Int):=by
 show (if v < 0 then max (v+(n:Int)) 0 else min v (n:Int))=(((if v < 0 then (v+(n:Int)).toNat else min v.toNat n):Nat):Int)
 by_cases hv:v < 0
 ·simp only[if_pos hv];omega
 ·simp only[if_neg hv];omega
theorem j99 (lo hi:Option Int) (n:Nat):Builtin.Slice.sliceAdjust lo hi 1 (n:Int)=(((sIx n 0 lo:Nat):Int),((sIx n n hi:Nat):Int)):=by
 have h1:¬ ((1:Int) < 0):=by omega
 unfold Builtin.Slice.sliceAdjust
 simp only[h1,if_false]
 refine Prod.ext ?_ ?_
 ·cases lo with
  | none=>rfl
  | some v=>exact jcu v n 0
 ·cases hi with
  | none=>rfl
  | some v=>exact jcu v n n
theorem j9a (i j:Nat):Builtin.Slice.slicePlaces (i:Int) (j:Int) 1=j-i:=by
 unfold Builtin.Slice.slicePlaces
 have h1:(1:Int) > 0:=by omega
 simp only[h1,if_true,Int.ediv_one]
 split <;> omega
theorem j5f {v:Value}{o:Option Int}{Q:Option Int→Shared→Prop} (p:IsPart v o) (h:Q o s):wpAny (model prog w) A (Builtin.Slice.slicePartIndex v) Q E s:=by
 cases p with
 | none=>exact slicePart_none h
 | int i t=>exact slicePart_int h
theorem j3c {sl:Addr}{vl vu:Value}{lo hi:Option Int}{n:Nat}{Q:Int × Int × Nat→Shared→Prop} (hs:s.heap.IsSliceOf sl vl vu .none) (pl:IsPart vl lo) (pu:IsPart vu hi)
  (h:Q (((sIx n 0 lo:Nat):Int),1,sIx n n hi-sIx n 0 lo) s):wpAny (model prog w) A (Builtin.Slice.sliceApplied (.ref sl) (pure (n:Int))) Q E s:=by
 obtain⟨os,hos,hcs,hds⟩:=id hs
 unfold Builtin.Slice.sliceApplied Builtin.Slice.sliceFields
 refine wpAny_bind (wpAny_bind (wpAny_field hos hds (x:=vl) rfl (wpAny_bind (wpAny_field hos hds (x:=vu) rfl (wpAny_bind (wpAny_field hos hds (x:=.none) rfl (wpAny_pure ?_)))))))
 refine wpAny_bind (slicePart_none ?_)
 show wpAny _ _ (if ((1:Int) == 0)=true then _ else _) _ _ s
 rw[if_neg (by decide)]
 refine wpAny_bind (j5f pl (wpAny_bind (j5f pu (wpAny_bind (wpAny_pure ?_)))))
 show wpAny _ _ (match Builtin.Slice.sliceAdjust lo hi 1 (n:Int) with | (lo,hi)=>pure (lo,(1:Int),Builtin.Slice.slicePlaces lo hi 1)) _ _ s
 rw[j99 lo hi n]
 show wpAny _ _ (pure (((sIx n 0 lo:Nat):Int),(1:Int),Builtin.Slice.slicePlaces ((sIx n 0 lo:Nat):Int) ((sIx n n hi:Nat):Int) 1)) _ _ s
 rw[j9a]
 exact wpAny_pure h
theorem je0 (xs:Array Value) (i k:Nat):((List.range k).filterMap fun (m:Nat)=>xs[((i:Int)+(m:Int) * 1).toNat]?).toArray=((xs.toList.drop i).take k).toArray:=by
 have e:(fun (m:Nat)=>xs[((i:Int)+(m:Int) * 1).toNat]?)=fun m=>xs[i+m]?:=by
  funext m
  have:((i:Int)+(m:Int) * 1).toNat=i+m:=by omega
  rw[this]
 rw[e]
 have:=pick_run xs i k
 rw[List.filterMap_map] at this
 have e2:((fun x=>xs[x]?) ∘ fun x=>i+x)=fun m=>xs[i+m]?:=rfl
 rw[e2] at this
 rw[this]
theorem getItem_tuple_cut {t sl:Addr}{items:Array Value}{vl vu:Value}{lo hi:Option Int}{Q:Value→Shared→Prop} (ht:IsTup s.heap t items) (hs:s.heap.IsSliceOf sl vl vu .none) (pl:IsPart vl lo) (pu:IsPart vu hi)
  (hw:¬ (sIx items.size 0 lo=0∧sIx items.size items.size hi=items.size))
  (h:Q (.ref s.heap.objs.size) { s with heap:=s.heap.push { cls:=.type "tuple",data:=.seq ((items.toList.drop (sIx items.size 0 lo)).take (sIx items.size items.size hi-sIx items.size 0 lo)).toArray } })
  (hsz:items.size≤sizeLine):wpAny (model prog w) A (getItem (.ref t) (.ref sl)) Q E s:=by
 have htake:sizeOk (.seq ((items.toList.drop (sIx items.size 0 lo)).take (sIx items.size items.size hi-sIx items.size 0 lo)).toArray):=by
  show ((items.toList.drop (sIx items.size 0 lo)).take (sIx items.size items.size hi-sIx items.size 0 lo)).toArray.size≤sizeLine
  rw[List.size_toArray,List.length_take,List.length_drop,Array.length_toList]
  omega
 have hj:sIx items.size items.size hi≤items.size:=sIx_le _ _ (Nat.le_refl _) hi
 obtain⟨os,hos,hcs,hds⟩:=id hs
 have hTs:s.TypeIs (.ref sl) "slice":=⟨os,hos,hcs⟩
 unfold getItem
 try with_reducible refine wpAny_holding ?_
 first | refine wpAny_bind (wpAny_pure ?_) | skip
 refine wpAny_bind (wpAny_sequenceKey ht.typeIs (by decide) ?_)
 refine wpAny_bind (wpAny_callSpecial?_slot (name:=Str.ofString "__getitem__") ht.typeIs PyProof.Rows.slot_tuple_getitem
  (wpAny_call_entry PyProof.Rows.slot_tuple_getitem ht.typeIs entry_tuple_getitem ?_ (args_tuple_getitem _ _)))
 show wpAny _ _ (Builtin.Tuple.tupleItemsOf (.ref t) >>= _) _ _ s
 refine wpAny_bind (tupleItemsOf_ ht ?_)
 refine wpAny_bind (wpAny_typeOf hTs ?_)
 rw[if_pos (by decide)]
 refine wpAny_bind (j3c hs pl pu ?_)
 have hno:¬ ((((sIx items.size 0 lo:Nat):Int) == 0 && (1:Int) == 1 && (sIx items.size items.size hi-sIx items.size 0 lo) == items.size)=true):=by
  intro q
  rw[Bool.and_eq_true,Bool.and_eq_true] at q
  have q1:((sIx items.size 0 lo:Nat):Int)=0:=eq_of_beq q.1.1
  have q2:sIx items.size items.size hi-sIx items.size 0 lo=items.size:=eq_of_beq q.2
  exact hw ⟨by omega,by omega⟩
 show wpAny _ _ (if (((sIx items.size 0 lo:Nat):Int) == 0 && (1:Int) == 1 && (sIx items.size items.size hi-sIx items.size 0 lo) == items.size)=true then _ else _) _ _ s
 rw[if_neg hno,je0]
 first
  | exact wpAny_bind (m:=Builtin.Tuple.tupleExact _) (wpAny_newObj_type (wpAny_pure ⟨_,rfl,wpAny_pure h⟩) htake)
  | exact wpAny_bind (m:=Builtin.Tuple.tupleExact _) (wpAny_newObj_type (wpAny_bind (wpAny_pure (wpAny_pure ⟨_,rfl,wpAny_pure h⟩))) htake)
  | exact wpAny_bind (wpAny_bind (m:=Builtin.Tuple.tupleExact _) (wpAny_newObj_type (wpAny_pure (wpAny_pure ⟨_,rfl,wpAny_pure h⟩)) htake))
  | exact wpAny_bind (wpAny_bind (m:=Builtin.Tuple.tupleExact _) (wpAny_newObj_type (wpAny_pure ⟨_,rfl,wpAny_pure h⟩) htake))
end
end HT
namespace L2
open PySem PySem.Spec PyProof.Rows
abbrev TO:=St→Hp→(Option Int→Hp→Prop)→Prop
def PO (X:Cx) (e:Option Expr) (t:TO):Prop :=
 ∀ (pins:List (Addr × Obj)) (s:Shared) (σ:St) (H:Hp) (Q:Option Int→Hp→Prop),Inv X pins σ H s→t σ H Q →
  wpAny (model X.prog X.w) X.A (evalPart e X.env) (fun u s'=>∃ o H',Inv X pins σ H' s'∧IsPart u o∧Q o H') X.xe s
def jcv:TO:=fun _ H Q=>Q none H
def tPart (t:TE):TO:=fun σ H Q=>t σ H fun x H1=>∃ i,x=.int i∧Q (some i) H1
theorem j9b {ns:List Int}:∀ {us:List Value},Vals (ns.map V.int) us→IntsAre us ns:=by
 induction ns with
 | nil=>intro us r;rw[List.map_nil] at r;cases r;exact .nil
 | cons n ns ih =>
  intro us r
  rw[List.map_cons] at r
  cases r with
  | cons r1 r2 =>
   obtain⟨t,e⟩:=r1
   subst e
   exact .cons n t (ih r2)
section
variable {X:Cx}{e:Expr}{te:TE}{lo hi:Option Expr}{tl th:TO}{pos p2:Pos}
theorem j21:PO X none jcv:=by
 intro pins s σ H Q I h
 rw[evalPart_none]
 exact wpAny_pure ⟨none,H,I,.none,h⟩
theorem j1m (h:PE X e te):PO X (some e) (tPart te):=by
 intro pins s σ H Q I hw
 rw[evalPart_some]
 refine thn (h pins s σ H _ I hw) fun u s1 ⟨x,H1,I1,r1,q1⟩=>?_
 obtain⟨i,rfl,q⟩:=q1
 obtain⟨t,rfl⟩:=r1
 exact⟨some i,H1,I1,.int i t,q⟩
def SlR (X:Cx) (r:V→Option Int→Option Int→Hp→VK→Prop):Prop :=
 ∀ (pins:List (Addr × Obj)) (s:Shared) (σ:St) (H:Hp) (x:V) (v vl vu:Value) (lo hi:Option Int) (sl:Addr) (Q:VK),Inv X pins σ H s→RelV x v→s.heap.IsSliceOf sl vl vu .none→IsPart vl lo→IsPart vu hi→r x lo hi H Q →
  ∃ T id,typeLookup (.type T) "__getitem__"=pure (some (.builtin id))∧s.TypeIs v T∧wpAny (model X.prog X.w) X.A (getItem v (.ref sl)) (EP X pins σ Q) X.xe s
theorem SlR.or {r r':V→Option Int→Option Int→Hp→VK→Prop} (h:SlR X r) (h':SlR X r'):SlR X (fun x lo hi H Q=>r x lo hi H Q∨r' x lo hi H Q):=by
 intro pins s σ H x v vl vu lo hi sl Q I rx hs pl pu q
 rcases q with q | q
 ·exact h pins s σ H x v vl vu lo hi sl Q I rx hs pl pu q
 ·exact h' pins s σ H x v vl vu lo hi sl Q I rx hs pl pu q
def tSl (r:V→Option Int→Option Int→Hp→VK→Prop) (te:TE) (tl th:TO):TE:=fun σ H Q=>te σ H fun x H1=>tl σ H1 fun l H2=>th σ H2 fun u H3=>r x l u H3 Q
theorem j1f {r:V→Option Int→Option Int→Hp→VK→Prop} (hr:SlR X r) (he:PE X e te) (hl:PO X lo tl) (hu:PO X hi th):PE X (.Subscript e (.Slice lo hi none p2) pos) (tSl r te tl th):=by
 intro pins s σ H Q I h
 refine Subscript_ (thn (he pins s σ H _ I h) fun v s1 ⟨x,H1,I1,r1,q1⟩=>?_)
 refine wpAny_Slice (thn (hl pins s1 σ H1 _ I1 q1) fun vl s2 ⟨l,H2,I2,pl,q2⟩=>thn (hu pins s2 σ H2 _ I2 q2) fun vu s3 ⟨u,H3,I3,pu,q3⟩=>?_)
 rw[evalPart_none]
 refine wpAny_pure ?_
 have I4:Inv X pins σ H3 { s3 with heap:=s3.heap.push { cls:=.type "slice",data:=.fields #[vl,vu,.none] } }:=I3.kept (t':=s3.toks) fun b ob q=>Heap.get?_push_of_some _ q
 obtain⟨T,id,hT,ht,hg⟩:=hr pins { s3 with heap:=s3.heap.push { cls:=.type "slice",data:=.fields #[vl,vu,.none] } } σ H3 x v vl vu l u s3.heap.objs.size Q I4 r1 (Heap.IsSliceOf.new ..) pl pu q3
 show wpAny (model X.prog X.w) X.A (subscriptTail e (.Slice lo hi none p2) v (.ref s3.heap.objs.size)) (EP X pins σ Q) X.xe { s3 with heap:=s3.heap.push { cls:=.type "slice",data:=.fields #[vl,vu,.none] } }
 exact tail_any (ops:=[.ref s3.heap.objs.size,v]) ht hT hg (by with_unfolding_all rfl)
def cutV (xs:List V) (lo hi:Option Int):List V:=(xs.drop (HT.sIx xs.length 0 lo)).take (HT.sIx xs.length xs.length hi-HT.sIx xs.length 0 lo)
theorem j4f (xs:List V) (lo hi:Option Int):(cutV xs lo hi).length≤xs.length:=by
 unfold cutV
 rw[List.length_take,List.length_drop]
 omega
def rSlT (K:PySem.W.Frag):V→Option Int→Option Int→Hp→VK→Prop:=fun x lo hi H Q=>∃ a xs,x=.ref a∧SqT K H a xs ∧
 ¬ (HT.sIx xs.length 0 lo=0∧HT.sIx xs.length xs.length hi=xs.length)∧∀ p,H p=none→Q (.ref p) (upd H p (.tup (cutV xs lo hi)))
theorem sl_tup:SlR X (rSlT X.K):=by
 intro pins s σ H x v vl vu lo hi sl Q I rx hs pl pu h
 obtain⟨a,xs,rfl,hx,hw,q⟩:=h
 cases rx
 obtain⟨its,r,ht,hz⟩:=I.tuple hx
 have hlen:its.toArray.size=xs.length:=by rw[List.size_toArray];exact r.length.symm
 refine⟨"tuple",_,PyProof.Rows.slot_tuple_getitem.lookup,ht.typeIs,?_⟩
 refine HT.getItem_tuple_cut ht hs pl pu (by rw[hlen];exact hw) ?_ (by rw[hlen];exact hz)
 rw[hlen]
 refine⟨.ref s.heap.objs.size,_,I.laid (t':=s.toks) (o:=.tup (cutV xs lo hi)) (fun b ob q=>Heap.get?_push_of_some _ q) (Nat.le_refl _) ?_,rfl,q _ (I.hok.fresh (Nat.le_refl _))⟩
 exact⟨Nat.le_trans (j4f xs lo hi) hz,_,(r.drop (HT.sIx xs.length 0 lo)).take (HT.sIx xs.length xs.length hi-HT.sIx xs.length 0 lo),TupN.new _ _⟩
end
def ixN (n:Nat) (i:Int):Option Nat:=if 0≤i then (if i < n then some i.toNat else none) else if -(n:Int)≤i then some (i+n).toNat else none
def atI {α:Type} (xs:List α) (i:Int):Option α:=(ixN xs.length i).bind fun j=>xs[j]?
theorem jft {n:Nat}{i:Int}{j:Nat} (h:ixN n i=some j):seqIndex? i n=some j∧j < n∧-(n:Int)≤i∧i < n:=by
 unfold ixN at h
 by_cases h0:0≤i
 ·rw[if_pos h0] at h
  by_cases h1:i < n
  ·rw[if_pos h1] at h
   have e:i.toNat=j:=Option.some.inj h
   exact⟨by rw[seqIndex_of h0 h1,e],by omega,by omega,h1⟩
  ·rw[if_neg h1] at h;cases h
 ·rw[if_neg h0] at h
  by_cases h1:-(n:Int)≤i
  ·rw[if_pos h1] at h
   have e:(i+n).toNat=j:=Option.some.inj h
   exact⟨by rw[seqIndex_neg (by omega) h1,e],by omega,h1,by omega⟩
  ·rw[if_neg h1] at h;cases h
theorem j9c {α:Type}{xs:List α}{i:Int}{v:α} (h:atI xs i=some v):∃ j,seqIndex? i xs.length=some j∧xs[j]?=some v∧j < xs.length∧-(xs.length:Int)≤i∧i < xs.length:=by
 unfold atI at h
 cases e:ixN xs.length i with
 | none=>rw[e] at h;cases h
 | some j =>
  rw[e] at h
  obtain⟨h1,h2,h3,h4⟩:=jft e
  exact⟨j,h1,h,h2,h3,h4⟩
theorem jfu {α:Type}{xs:List α}{j:Nat}{v:α} (h:xs[j]?=some v):atI xs (j:Int)=some v:=by
 have hj:j < xs.length:=(List.getElem?_eq_some_iff.mp h).1
 have e:ixN xs.length (j:Int)=some j:=by
  unfold ixN
  rw[if_pos (by omega),if_pos (by omega)];simp
 unfold atI;rw[e];exact h
def jfv (b:Expr):Prop:=∀ o i,subscripted b false o i=operate [o,i] (getItem o i)
def IxR (X:Cx) (r:R2):Prop :=
 ∀ (value slice:Expr) (pins:List (Addr × Obj)) (s:Shared) (σ:St) (H:Hp) (x y:V) (v u:Value) (Q:VK),Inv X pins σ H s→RelV x v→RelV y u→r x y H Q →
  subscripted slice false v u=operate [v,u] (getItem v u)→wpAny (model X.prog X.w) X.A (subscriptTail value slice v u) (EP X pins σ Q) X.xe s
def MtR (X:Cx) (id:String) (r:V→List V→Hp→VK→Prop):Prop :=
 ∀ (pins:List (Addr × Obj)) (s:Shared) (σ:St) (H:Hp) (x:V) (xs:List V) (v:Value) (us:List Value) (Q:VK),Inv X pins σ H s→RelV x v→Vals xs us→r x xs H Q →
  wpAny (model X.prog X.w) X.A (call (.builtin id) (v :: us)) (EP X pins σ Q) X.xe s
section
variable {X:Cx}{a b:Expr}{ta tb:TE}{pos:Pos}
theorem IxR.or {r r':R2} (h:IxR X r) (h':IxR X r'):IxR X (fun x y H Q=>r x y H Q∨r' x y H Q):=by
 intro value slice pins s σ H x y v u Q I rx ry q hs
 rcases q with q | q
 ·exact h value slice pins s σ H x y v u Q I rx ry q hs
 ·exact h' value slice pins s σ H x y v u Q I rx ry q hs
theorem j1h {r:R2} (hr:IxR X r) (ha:PE X a ta) (hb:PE X b tb) (hs:jfv b):PE X (.Subscript a b pos) (tOp r ta tb):=by
 intro pins s σ H Q I h
 exact Subscript_ (binT ha hb I h fun v u s2 x y H2 I2 rx ry q=>hr a b pins s2 σ H2 x y v u Q I2 rx ry q (hs _ _))
def rIxL (K:PySem.W.Frag):R2:=fun x y H Q=>∃ p xs i v,x=.ref p∧y=.int i∧SqL K H p xs∧atI xs i=some v∧Q v H
def rIxT (K:PySem.W.Frag):R2:=fun x y H Q=>∃ p xs i v,x=.ref p∧y=.int i∧SqT K H p xs∧atI xs i=some v∧Q v H
def rIxS:R2:=fun x y H Q=>∃ z i c,x=.str z∧y=.int i∧z.length≤sizeLine∧atI z.cps.toList i=some c∧Q (.str ⟨#[c]⟩) H
theorem jfw:IxR X (rIxL X.K):=by
 intro value slice pins s σ H x y v u Q I rx ry h hs
 obtain⟨p,xs,i,z,rfl,rfl,hq,he,q⟩:=h
 cases rx
 obtain⟨t,rfl⟩:=ry
 obtain⟨its,r,pl,hz⟩:=I.list hq
 obtain⟨j,h1,h2,h3,h4,h5⟩:=j9c he
 obtain⟨w,ew,rw'⟩:=r.get h2
 have hl:=r.length
 have hn:=j89
 have fin:EP X pins σ Q w s:=⟨z,H,I,rw',q⟩
 by_cases h0:0≤i
 ·have hj:i.toNat=j:=by
   rw[seqIndex_of h0 h5] at h1
   exact Option.some.inj h1
  exact item_listR pl.isList h0 (by omega) (by rw[hj];simpa using ew) fin hs
 ·have hj:(i+(its.toArray.size:Int)).toNat=j:=by
   rw[seqIndex_neg (by omega) h4] at h1
   rw[List.size_toArray,← hl]
   exact Option.some.inj h1
  exact subscriptTail_builtinR (x:=w) pl.isList.typeIs slot_list_getitem.lookup
   (wpAny_getItem_list_neg (Q:=fun r s'=>r=w∧EP X pins σ Q r s') pl.isList (by omega) (by rw[List.size_toArray] <;> omega) (by omega) (by rw[hj];simpa using ew) ⟨rfl,fin⟩) hs
theorem ix_tup:IxR X (rIxT X.K):=by
 intro value slice pins s σ H x y v u Q I rx ry h hs
 obtain⟨p,xs,i,z,rfl,rfl,hq,he,q⟩:=h
 cases rx
 obtain⟨t,rfl⟩:=ry
 obtain⟨its,r,pl,hz⟩:=I.tuple hq
 obtain⟨j,h1,h2,h3,h4,h5⟩:=j9c he
 obtain⟨w,ew,rw'⟩:=r.get h2
 have hl:=r.length
 have hn:=j89
 have fin:EP X pins σ Q w s:=⟨z,H,I,rw',q⟩
 exact subscriptTail_builtinR (x:=w) pl.typeIs slot_tuple_getitem.lookup
  (getItem_tuple (j:=j) (Q:=fun r s'=>r=w∧EP X pins σ Q r s') pl (by omega) (by omega) (by rw[List.size_toArray,← hl];exact h1) (by simpa using ew) ⟨rfl,fin⟩) hs
theorem ix_str:IxR X rIxS:=by
 intro value slice pins s σ H x y v u Q I rx ry h hs
 obtain⟨z,i,c,rfl,rfl,hz,he,q⟩:=h
 obtain⟨t,rfl⟩:=rx
 obtain⟨t',rfl⟩:=ry
 obtain⟨j,h1,h2,h3,h4,h5⟩:=j9c he
 have hl:z.cps.toList.length=z.length:=by simp[Str.length]
 rw[hl] at h1 h4 h5
 have hn:=j89
 exact tail_any (typeIs_str s z t) slot_str_getitem.lookup (getItem_str (c:=c) (by
  have e1:decide (i < -(2 ^ 63:Int))=false:=decide_eq_false (by omega)
  have e2:decide (i≥2 ^ 63)=false:=decide_eq_false (by omega)
  rw[e1,e2,Bool.or_false]) (by rw[h1];simpa using h2) ⟨.str ⟨#[c]⟩,H,I.tok _,⟨_,rfl⟩,q⟩) hs
def rIx (K:PySem.W.Frag):R2:=fun x y H Q=>rIxL K x y H Q∨rIxT K x y H Q∨rIxS x y H Q
theorem ix_seq:IxR X (rIx X.K):=jfw.or (ix_tup.or ix_str)
theorem j6f (lo hi:Option Int) (n:Nat):(sliceBounds lo hi none n).1=((HT.sIx n 0 lo:Nat):Int)∧(sliceBounds lo hi none n).2.1=((HT.sIx n n hi:Nat):Int)∧(sliceBounds lo hi none n).2.2=1:=by
 refine⟨?_,?_,rfl⟩
 ·cases lo with
  | none=>simp[sliceBounds,HT.sIx]
  | some i =>
   simp only[sliceBounds,HT.sIx,Option.getD_none,show (1:Int) > 0 by decide,if_true]
   by_cases h:i < 0
   ·simp only[h,if_true] <;> omega
   ·simp only[h,if_false] <;> omega
 ·cases hi with
  | none=>simp[sliceBounds,HT.sIx]
  | some i =>
   simp only[sliceBounds,HT.sIx,Option.getD_none,show (1:Int) > 0 by decide,if_true]
   by_cases h:i < 0
   ·simp only[h,if_true] <;> omega
   ·simp only[h,if_false] <;> omega
theorem j5g (its:List Value) (lo hi:Option Int):slicePick its.toArray lo hi none=((its.drop (HT.sIx its.length 0 lo)).take (HT.sIx its.length its.length hi-HT.sIx its.length 0 lo)).toArray:=by
 obtain⟨h1,h2,h3⟩:=j6f lo hi its.toArray.size
 unfold slicePick
 rw[h1,h2,h3]
 simp only[sliceRange_one,pick_run,List.size_toArray] <;> rfl
def rSlL (K:PySem.W.Frag):V→Option Int→Option Int→Hp→VK→Prop:=fun x lo hi H Q=>∃ a xs,x=.ref a∧SqL K H a xs∧∀ p,H p=none→Q (.ref p) (upd H p (.lst (cutV xs lo hi)))
theorem jii:SlR X (rSlL X.K):=by
 intro pins s σ H x v vl vu lo hi sl Q I rx hs pl pu h
 obtain⟨a,xs,rfl,hx,q⟩:=h
 cases rx
 obtain⟨its,r,ht,hz⟩:=I.list hx
 have hlen:=r.length
 refine⟨"list",_,slot_list_getitem.lookup,ht.isList.typeIs,?_⟩
 refine wpAny_getItem_list_slice ht.isList hs pl pu .none (by simp) ?_ (by rw[List.size_toArray] <;> omega)
 rw[j5g,← hlen]
 refine⟨.ref s.heap.objs.size,_,I.laid (t':=s.toks) (o:=.lst (cutV xs lo hi)) (fun b ob q=>Heap.get?_push_of_some _ q) (Nat.le_refl _) ?_,rfl,q _ (I.hok.fresh (Nat.le_refl _))⟩
 exact⟨Nat.le_trans (j4f xs lo hi) hz,_,0,(r.drop (HT.sIx xs.length 0 lo)).take (HT.sIx xs.length xs.length hi-HT.sIx xs.length 0 lo),Heap.get?_push_size _ rfl⟩
def j8c:V→Bool
 | .non=>true
 | .bl _=>true
 | .int _=>true
 | .str _=>true
 | _=>false
def eqV:V→V→Bool
 | .non,.non=>true
 | .bl a,.bl b=>a == b
 | .bl a,.int b=>(if a then 1 else 0) == b
 | .int a,.bl b=>a == (if b then 1 else 0)
 | .int a,.int b=>a == b
 | .str a,.str b=>a == b
 | _,_=>false
theorem eqAt_V {A:Around}{s:Shared}{y x:V}{u v:Value} (ry:RelV y u) (rx:RelV x v) (fy:j8c y=true) (fx:j8c x=true):SeqAt.EqAt A s u v (eqV y x):=by
 cases y with
 | non =>
  cases ry
  cases x with
  | non=>cases rx;exact SeqAt.EqAt.same _
  | bl b=>cases rx;exact SeqAt.EqAt.none_bool b
  | int b=>obtain⟨t,rfl⟩:=rx;exact SeqAt.EqAt.none_int b t
  | str b=>obtain⟨t,rfl⟩:=rx;exact SeqAt.EqAt.none_str b t
  | _=>exact absurd (show false=true from fx) Bool.false_ne_true
 | bl a =>
  cases ry
  cases x with
  | non=>cases rx;exact SeqAt.EqAt.bool_none a
  | bl b=>cases rx;exact SeqAt.EqAt.bool_bool a b
  | int b=>obtain⟨t,rfl⟩:=rx;exact SeqAt.EqAt.bool_int a b t
  | str b=>obtain⟨t,rfl⟩:=rx;exact SeqAt.EqAt.bool_str a b t
  | _=>exact absurd (show false=true from fx) Bool.false_ne_true
 | int a =>
  obtain⟨t',rfl⟩:=ry
  cases x with
  | non=>cases rx;exact SeqAt.EqAt.int_none a t'
  | bl b=>cases rx;exact SeqAt.EqAt.int_bool a t' b
  | int b=>obtain⟨t,rfl⟩:=rx;exact SeqAt.EqAt.int_int a t' b t
  | str b=>obtain⟨t,rfl⟩:=rx;exact SeqAt.EqAt.int_str a t' b t
  | _=>exact absurd (show false=true from fx) Bool.false_ne_true
 | str a =>
  obtain⟨t',rfl⟩:=ry
  cases x with
  | non=>cases rx;exact SeqAt.EqAt.str_none a t'
  | bl b=>cases rx;exact SeqAt.EqAt.str_bool a t' b
  | int b=>obtain⟨t,rfl⟩:=rx;exact SeqAt.EqAt.str_int a t' b t
  | str b=>obtain⟨t,rfl⟩:=rx;exact SeqAt.EqAt.str_str a t' b t
  | _=>exact absurd (show false=true from fx) Bool.false_ne_true
 | _=>exact absurd (show false=true from fy) Bool.false_ne_true
def eqU (x:V) (u:Value):Bool:=match u with
 | .none=>eqV .non x
 | .bool b=>eqV (.bl b) x
 | .int i _=>eqV (.int i) x
 | .str z _=>eqV (.str z) x
 | _=>false
theorem jfy {x y:V}{u:Value} (r:RelV y u) (f:j8c y=true):eqU x u=eqV y x:=by
 cases y with
 | non=>cases r;rfl
 | bl b=>cases r;rfl
 | int i=>obtain⟨t,rfl⟩:=r;rfl
 | str z=>obtain⟨t,rfl⟩:=r;rfl
 | _=>exact absurd (show false=true from f) Bool.false_ne_true
theorem j5h {x:V}:∀ {xs:List V}{us:List Value},Vals xs us→xs.all j8c=true→us.any (eqU x)=xs.any fun y=>eqV y x
 | _,_,.nil,_=>rfl
 | y :: xs,u :: us,.cons r t,f=>by
  rw[List.all_cons,Bool.and_eq_true] at f
  rw[List.any_cons,List.any_cons,jfy r f.1,j5h t f.2]
theorem j3d {A:Around}{s:Shared}{x:V}{v:Value} (rx:RelV x v) (fx:j8c x=true):∀ {xs:List V}{us:List Value},Vals xs us→xs.all j8c=true→∀ u∈us,SeqAt.EqAt A s u v (eqU x u)
 | _,_,.nil,_=>fun u hu=>by cases hu
 | y :: xs,u :: us,.cons r t,f=>fun u' hu=>by
  rw[List.all_cons,Bool.and_eq_true] at f
  rcases List.mem_cons.mp hu with rfl | hu
  ·rw[jfy r f.1];exact eqAt_V r rx f.1 fx
  ·exact j3d rx fx t f.2 u' hu
def inV (x:V) (xs:List V):Bool:=xs.any fun y=>eqV y x
def rIn (K:PySem.W.Frag) (neg:Bool):R2:=fun x y H Q=>∃ p xs,y=.ref p∧(SqL K H p xs∨SqT K H p xs)∧j8c x=true∧xs.all j8c=true∧Q (.bl (if neg then !inV x xs else inV x xs)) H
theorem jbb:OpR X (compareOp .In) (rIn X.K false):=by
 intro pins s σ H x y v u Q I rx ry h
 obtain⟨p,xs,rfl,hq,fx,fs,q⟩:=h
 cases ry
 rcases hq with hq | hq
 ·obtain⟨its,r,pl,hz⟩:=I.list hq
  refine SeqAt.in_listAt (eqU x) pl.isList (fun w hw=>j3d rx fx r fs w (by simpa using hw)) ⟨.bl _,H,I,rfl,?_⟩
  rw[show its.toArray.any (eqU x)=its.any (eqU x) by simp,j5h r fs]
  exact q
 ·obtain⟨its,r,pl,hz⟩:=I.tuple hq
  refine SeqAt.in_tupleAt (eqU x) pl (fun w hw=>j3d rx fx r fs w (by simpa using hw)) ⟨.bl _,H,I,rfl,?_⟩
  rw[show its.toArray.any (eqU x)=its.any (eqU x) by simp,j5h r fs]
  exact q
theorem j6g:OpR X (compareOp .NotIn) (rIn X.K true):=by
 intro pins s σ H x y v u Q I rx ry h
 obtain⟨p,xs,rfl,hq,fx,fs,q⟩:=h
 cases ry
 rcases hq with hq | hq
 ·obtain⟨its,r,pl,hz⟩:=I.list hq
  refine SeqAt.notIn_listAt (eqU x) pl.isList (fun w hw=>j3d rx fx r fs w (by simpa using hw)) ⟨.bl _,H,I,rfl,?_⟩
  rw[show its.toArray.any (eqU x)=its.any (eqU x) by simp,j5h r fs]
  exact q
 ·obtain⟨its,r,pl,hz⟩:=I.tuple hq
  refine SeqAt.notIn_tupleAt (eqU x) pl (fun w hw=>j3d rx fx r fs w (by simpa using hw)) ⟨.bl _,H,I,rfl,?_⟩
  rw[show its.toArray.any (eqU x)=its.any (eqU x) by simp,j5h r fs]
  exact q
theorem j6h:CallR X (.builtin "len") (fun xs H Q=>∃ z,xs=[.str z]∧z.length≤sizeLine∧Q (.int z.length) H):=by
 intro pins s σ H xs us Q I r h
 obtain⟨z,rfl,hz,q⟩:=h
 obtain⟨u,rfl,t,rfl⟩:=j8a r
 have hn:=j89
 exact len_str (by omega) ⟨.int z.length,H,I.tok _,⟨_,rfl⟩,q⟩
theorem CallR.or {f:Value}{r r':List V→Hp→VK→Prop} (h:CallR X f r) (h':CallR X f r'):CallR X f (fun xs H Q=>r xs H Q∨r' xs H Q):=by
 intro pins s σ H xs us Q I rs q
 rcases q with q | q
 ·exact h pins s σ H xs us Q I rs q
 ·exact h' pins s σ H xs us Q I rs q
theorem j6i:CallR X (.type "list") (fun xs H Q=>∃ p ys,xs=[.ref p]∧(SqL X.K H p ys∨SqT X.K H p ys)∧∀ l,H l=none→Q (.ref l) (upd H l (.lst ys))):=by
 intro pins s σ H xs us Q I r h
 obtain⟨p,ys,rfl,hq,q⟩:=h
 obtain⟨u,rfl,rx⟩:=j8a r
 cases rx
 have fin:∀ (its:List Value),Vals ys its→ys.length≤sizeLine→∀ (h':Heap) (c':Nat),(∀ b o',s.heap.get? b=some o'→h'.get? b=some o') →
   h'.get? s.heap.objs.size=some { cls:=.type "list",dict:=none,data:=.seq its.toArray c',slots:=#[] }→EP X pins σ Q (.ref s.heap.objs.size) { s with heap:=h' }:=fun its r' hz h' c' kp e =>
  ⟨.ref s.heap.objs.size,_,I.laid (t':=s.toks) kp (Nat.le_refl _) (show ObjOk X.prog X.w _ h' _ (.lst ys) from⟨hz,its,c',r',e⟩),rfl,q _ (I.hok.fresh (Nat.le_refl _))⟩
 rcases hq with hq | hq
 ·obtain⟨its,r',pl,hz⟩:=I.list hq
  have hlen:=r'.length
  obtain⟨o,ho,hc,n,hd⟩:=pl.isList
  exact call_list_seq p (.inl rfl) ho hc hd (fun h' c' kp e=>fin its r' hz h' c' kp e) (by simp only[List.size_toArray] <;> omega)
 ·obtain⟨its,r',pl,hz⟩:=I.tuple hq
  have hlen:=r'.length
  obtain⟨o,ho,hc,n,hd⟩:=pl
  exact call_list_seq p (.inr rfl) ho hc hd (fun h' c' kp e=>fin its r' hz h' c' kp e) (by simp only[List.size_toArray] <;> omega)
theorem j5i:CallR X (.type "tuple") (fun xs H Q=>∃ p ys,xs=[.ref p]∧((SqL X.K H p ys∧∀ l,H l=none→Q (.ref l) (upd H l (.tup ys)))∨(SqT X.K H p ys∧Q (.ref p) H))):=by
 intro pins s σ H xs us Q I r h
 obtain⟨p,ys,rfl,h⟩:=h
 obtain⟨u,rfl,rx⟩:=j8a r
 cases rx
 rcases h with⟨hq,q⟩ | ⟨hq,q⟩
 ·obtain⟨its,r',pl,hz⟩:=I.list hq
  have hlen:=r'.length
  refine call_tuple_list pl.isList (fun h' kp=>?_) (by simp only[List.size_toArray] <;> omega)
  have I1:Inv X pins σ H { s with heap:=h' }:=I.kept (t':=s.toks) kp
  have I2:Inv X pins σ (upd H h'.objs.size (.tup ys)) { s with heap:=h'.push { cls:=.type "tuple",data:=.seq its.toArray } } :=
   I1.laid (t':=s.toks) (fun b o e=>Heap.get?_push_of_some _ e) (Nat.le_refl _) (show ObjOk X.prog X.w _ _ _ (.tup ys) from⟨hz,its,r',TupN.new _ _⟩)
  exact⟨.ref h'.objs.size,_,I2,rfl,q _ (I1.hok.fresh (Nat.le_refl _))⟩
 ·obtain⟨its,r',pl,hz⟩:=I.tuple hq
  exact call_tuple_same pl ⟨.ref p,H,I,rfl,q⟩
def tyV (K:PySem.W.Frag) (T:String) (x:V) (H:Hp):Prop:=match x with
 | .str _=>T="str"
 | .int _=>T="int"
 | .ref p=>(T="list"∧∃ xs,SqL K H p xs)∨(T="tuple"∧∃ o,K.lookup p=some o∧o.cls=.type "tuple"∧o.dict=none) ∨
   (T="dict"∧((∃ kvs,H p=some (.dK kvs))∨∃ kvs,H p=some (.dT kvs)))∨(T="set"∧∃ S n,H p=some (.set S n))
 | _=>False
theorem tyV_is {pins:List (Addr × Obj)}{σ:St}{H:Hp}{s:Shared}{T:String}{x:V}{v:Value} (I:Inv X pins σ H s) (r:RelV x v) (ty:tyV X.K T x H) :
  s.TypeIs v T∧∀ a,v=.ref a→∃ ob,s.heap.get? a=some ob∧ob.dict=none:=by
 cases x with
 | str z =>
  obtain⟨t,rfl⟩:=r
  cases (show T="str" from ty)
  exact⟨typeIs_str s z t,fun _ e=>nomatch e⟩
 | int i =>
  obtain⟨t,rfl⟩:=r
  cases (show T="int" from ty)
  exact⟨typeIs_int s i t,fun _ e=>nomatch e⟩
 | ref p =>
  cases r
  rcases ty with⟨rfl,xs,hq⟩ | ⟨rfl,o,hk,hc,hd⟩ | ⟨rfl,hk⟩ | ⟨rfl,S,n,hk⟩
  ·obtain⟨its,_,pl,_⟩:=I.list hq
   refine⟨pl.isList.typeIs,fun a e=>?_⟩
   cases e
   obtain⟨o,n,e,c,hd,_⟩:=pl
   exact⟨o,e,hd⟩
  ·refine⟨⟨o,I.kIn p o hk,hc⟩,fun a e=>?_⟩
   cases e
   exact⟨o,I.kIn _ o hk,hd⟩
  ·have z:∃ o,s.heap.get? p=some o∧o.ExactDict:=by
    rcases hk with⟨kvs,hk⟩ | ⟨kvs,hk⟩
    ·obtain⟨_,_,_,_,o,_,_,e,ex,_⟩:=I.hok p _ hk
     exact⟨o,e,ex⟩
    ·obtain⟨_,_,_,_,o,_,_,e,ex,_⟩:=I.hok p _ hk
     exact⟨o,e,ex⟩
   obtain⟨o,e,ex⟩:=z
   refine⟨⟨o,e,ex.1⟩,fun a e2=>?_⟩
   cases e2
   exact⟨o,e,ex.2.1⟩
  ·obtain⟨o,_,_,_,e,ex,_⟩:=I.hok p _ hk
   refine⟨⟨o,e,ex.1⟩,fun a e2=>?_⟩
   cases e2
   exact⟨o,e,ex.2.1⟩
 | _=>exact False.elim ty
def tBM (K:PySem.W.Frag) (T:String) (r:V→List V→Hp→VK→Prop) (to:TE) (t:TA):TE:=fun σ H Q=>to σ H fun x H1=>tyV K T x H1∧t σ H1 fun xs H2=>r x xs H2 Q
variable {o e:Expr}{es:List Expr}{to:TE}{t:TA}{name:Str}{apos cpos:Pos}{T id:String}{r:V→List V→Hp→VK→Prop}
theorem jjc (pa:PlainAttrs T) (slot:Slot T name id) (hty:typeOf (.builtin id)=pure (.type "method_descriptor")) (hm:MtR X id r) (ho:PE X o to) (ha:PA X (e :: es) t)
  (hbase:attributeBase o name X.env (eval o X.env)=eval o X.env:=by rfl)
  (hfew:((backTo cpos (starEach (e :: es) X.env)).all (fun x=>!x.1) && (backToKw cpos (keywordEach [] X.env)).all (fun x=>x.1.isSome)
   && decide ((e :: es).length+([]:List Keyword).length+(if ([]:List Keyword).isEmpty then 0 else 1) < 30))=true:=by rfl)
  (hline:(apos.endLine == cpos.line)=true:=by rfl) (hs:starEach (e :: es) X.env=(false,eval e X.env) :: starEach es X.env:=by rfl) (hplain:(backTo cpos (starEach es X.env)).any (·.1)=false:=by rfl) :
  PE X (.Call (.Attribute o name apos) (e :: es) [] cpos) (tBM X.K T r to t):=by
 intro pins s σ H Q I h
 refine wpAny_Call_method_late hbase hfew hline rfl (thn (ho pins s σ H _ I h) fun v s1 ⟨x,H1,I1,r1,ty,q1⟩=>?_)
 obtain⟨h1,h2⟩:=tyV_is I1 r1 ty
 refine⟨T,id,pa,slot,hty,h1,h2,?_⟩
 have hA:=ha cpos pins s1 σ H1 _ I1 q1
 rw[hs] at hA ⊢
 refine Calls.callWith_builtin (by show (false || (backTo cpos (starEach es X.env)).any (·.1))=false;rw[hplain] <;> rfl) (Calls.evalArgs_plain ?_)
 exact thn hA fun us s2 ⟨vs,H2,I2,r2,q2⟩=>hm pins s2 σ H2 x vs v us Q I2 r1 r2 q2
end
def MtM (X:Cx) (id:String) (r:V→List V→Hp→VK→Prop):Prop :=
 ∀ (pins:List (Addr × Obj)) (s:Shared) (σ:St) (H:Hp) (x:V) (xs:List V) (v:Value) (us:List Value) (Q:VK),Inv X pins σ H s→RelV x v→Vals xs us→r x xs H Q →
  wpAny (model X.prog X.w) X.A (call (.builtin id) (v :: us)) (EP X pins σ Q) X.xe s
theorem Vals.one:∀ {x:V}{us:List Value},Vals [x] us→∃ u,us=[u]∧RelV x u
 | _,_,.cons r .nil=>⟨_,rfl,r⟩
theorem Vals.rep {xs:List V}{us:List Value} (h:Vals xs us):∀ k:Nat,Vals (List.replicate k xs).flatten (List.replicate k us).flatten
 | 0=>.nil
 | k+1=>by
  rw[List.replicate_succ,List.replicate_succ,List.flatten_cons,List.flatten_cons]
  exact Vals.append h (Vals.rep h k)
theorem j7j (its:List Value):∀ (k:Nat) (acc:List Value),
  List.foldl (fun x1 x2=>x1++x2) acc.toArray (List.replicate k its.toArray)=(acc++(List.replicate k its).flatten).toArray
 | 0,acc=>by simp
 | k+1,acc=>by
  have e:acc.toArray++its.toArray=(acc++its).toArray:=by simp
  have e2:(acc++its)++(List.replicate k its).flatten=acc++(List.replicate (k+1) its).flatten:=by
   rw[List.replicate_succ,List.flatten_cons,List.append_assoc]
  rw[← e2,← j7j its k (acc++its),← e,List.replicate_succ,List.foldl_cons]
section
variable {X:Cx}{pins:List (Addr × Obj)}{σ:St}{H:Hp}{s:Shared}{l b:Addr}{xs ys zs:List V}
theorem Inv.lset {its its':List Value}{n:Nat}{f:Array Value→Array Value}{t':Nat} (I:Inv X pins σ H s) (hH:H l=some (.lst xs))
  (e:s.heap.get? l=some { cls:=.type "list",data:=.seq its.toArray n }) (hf:f its.toArray=its'.toArray) (hv:Vals ys its') (hz:ys.length≤sizeLine) :
  Inv X pins σ (upd H l (.lst ys)) { s with heap:=s.heap.update l (Obj.mapSeq f),toks:=t' }:=by
 have q:=PySem.IsL.update e f
 rw[hf] at q
 refine I.write (x:=l) (e:=l) (by rw[hH];exact trivial) (.inl rfl) (fun b' u hb hu=>(Heap.get?_update_other s.heap (Obj.mapSeq f) (Ne.symm hb)).trans hu) ⟨_,q⟩ ?_
 exact⟨hz,its',_,hv,q⟩
theorem Inv.lnew {its:List Value}{t':Nat} (I:Inv X pins σ H s) (hv:Vals ys its) (hz:ys.length≤sizeLine) :
  Inv X pins σ (upd H s.heap.objs.size (.lst ys)) { s with heap:=s.heap.push { cls:=.type "list",data:=.seq its.toArray },toks:=t' } :=
 I.laid (fun _ _ q=>Heap.get?_push_of_some _ q) (Nat.le_refl _) ⟨hz,its,0,hv,Heap.get?_push_size _ rfl⟩
theorem Inv.fresh (I:Inv X pins σ H s):H s.heap.objs.size=none:=I.hok.fresh (Nat.le_refl _)
theorem Inv.lstM (I:Inv X pins σ H s) (hH:H l=some (.lst xs)):xs.length≤sizeLine∧∃ (its:List Value) (n:Nat),Vals xs its∧xs.length=its.length∧s.heap.get? l=some { cls:=.type "list",data:=.seq its.toArray n }:=by
 obtain⟨z,its,n,r,e⟩:=I.hok l _ hH
 exact⟨z,its,n,r,r.length,e⟩
theorem je1 {n:Nat} (h:n≤sizeLine):Builtin.List.listTooLong n=false:=by
 unfold Builtin.List.listTooLong
 exact decide_eq_false (by omega)
end
section
variable {X:Cx}
def jcw:V→List V→Hp→VK→Prop:=fun x vs H Q=>∃ l xs y,x=.ref l∧vs=[y]∧H l=some (.lst xs)∧xs.length < sizeLine∧Q .non (upd H l (.lst (xs++[y])))
theorem j39:MtM X "list.append" jcw:=by
 intro pins s σ H x vs v us Q I rx rv h
 obtain⟨l,xs,y,rfl,rfl,hH,hz,q⟩:=h
 cases rx
 obtain⟨u,rfl,ru⟩:=rv.one
 obtain⟨z,its,n,r,hl,e⟩:=I.lstM hH
 refine call_meets F.slot_list_append ⟨_,e,rfl⟩ F.entry_list_append (F.args_list_append_2 _ _) (PySem.list_append l its.toArray n u (by rw[List.size_toArray];omega)) ⟨e,?_⟩
 refine⟨.non,_,I.lset (its':=its++[u]) hH e (by simp) (r.append (.cons ru .nil)) ?_,rfl,q⟩
 rw[List.length_append,List.length_singleton]
 omega
def rCat:R2:=fun x y H Q=>∃ l b xs zs,x=.ref l∧y=.ref b∧H l=some (.lst xs)∧H b=some (.lst zs)∧xs.length+zs.length≤sizeLine∧∀ p,H p=none→Q (.ref p) (upd H p (.lst (xs++zs)))
theorem op_cat:OpR X (binaryOp .Add) rCat:=by
 intro pins s σ H x y v u Q I rx ry h
 obtain⟨l,b,xs,zs,rfl,rfl,hH,hB,hz,q⟩:=h
 cases rx
 cases ry
 obtain⟨z,its,n,r,hl,e⟩:=I.lstM hH
 obtain⟨z2,its2,n2,r2,hl2,e2⟩:=I.lstM hB
 refine PySem.P.add_list e e2 ?_ (by rw[List.size_toArray,List.size_toArray];omega)
 have ea:its.toArray++its2.toArray=(its++its2).toArray:=by simp
 rw[ea]
 exact⟨.ref _,_,I.lnew (t':=s.toks) (r.append r2) (by rw[List.length_append];omega),rfl,q _ I.fresh⟩
def rRep:R2:=fun x y H Q=>∃ l k xs,x=.ref l∧y=.int k∧H l=some (.lst xs)∧-(2 ^ 63)≤k∧k < 2 ^ 63∧xs.length * k.toNat≤sizeLine ∧
 ∀ p,H p=none→Q (.ref p) (upd H p (.lst (List.replicate k.toNat xs).flatten))
theorem jfz {α:Type} (xs:List α) (k:Nat):(List.replicate k xs).flatten.length=k * xs.length:=by
 induction k with
 | zero=>simp
 | succ k ih=>rw[List.replicate_succ,List.flatten_cons,List.length_append,ih,Nat.succ_mul,Nat.add_comm]
theorem j8d:OpR X (binaryOp .Mult) rRep:=by
 intro pins s σ H x y v u Q I rx ry h
 obtain⟨l,k,xs,rfl,rfl,hH,h1,h2,hz,q⟩:=h
 cases rx
 obtain⟨t,rfl⟩:=ry
 obtain⟨z,its,n,r,hl,e⟩:=I.lstM hH
 have hlen:its.toArray.size * k.toNat≤sizeLine:=by rw[List.size_toArray,← hl];exact hz
 have hcap:¬ its.toArray.size * k.toNat > (2 ^ 63-1) / 8:=by
  have:(sizeLine:Nat)≤(2 ^ 63-1) / 8:=by decide
  omega
 have hfit:¬ (!Builtin.List.listFitsIndex k)=true:=by
  rw[fitsIndex_both h1 h2]
  exact Bool.false_ne_true
 have hlong:¬ Builtin.List.listTooLong (its.toArray.size * k.toNat)=true:=by
  rw[je1 hlen]
  exact Bool.false_ne_true
 have hnew:List.foldl (fun x1 x2=>x1++x2) #[] (List.replicate (if its.toArray.isEmpty=true then 0 else k.toNat) its.toArray)=(List.replicate k.toNat its).flatten.toArray:=by
  have f0:∀ m:Nat,List.foldl (fun x1 x2=>x1++x2) #[] (List.replicate m its.toArray)=(List.replicate m its).flatten.toArray:=fun m=>by
   have:=j7j its m []
   rw[List.nil_append] at this
   exact this
  rw[f0]
  cases its with
  | nil=>simp
  | cons a r'=>rw[if_neg (by simp)]
 refine wpAny_binaryOp_repeat_ref (T:="list") (U:="int") (by decide) ⟨_,e,rfl⟩ (fun s'=>typeIs_int s' k t) noFill_list_mul F.fills_int_mul F.slot_int_rmul repeat_list F.slot_int_index.lookup
  (call_meets F.slot_int_rmul (typeIs_int s k t) F.entry_int_rmul (F.args_int_rmul_2 _ _) (int___rmul___int_list k t l its.toArray n)
   ⟨e,rfl,⟨_,e,rfl⟩,call_meets F.slot_list_mul ⟨_,e,rfl⟩ F.entry_list_mul (F.args_list_mul_2 _ _) (AutoListH.list___mul___list_int_3 l its.toArray n k t hfit hcap hlong) ⟨e,?_⟩⟩)
 rw[hnew]
 exact⟨.ref _,_,I.lnew (t':=s.toks) (r.rep k.toNat) (by rw[jfz,Nat.mul_comm];exact hz),rfl,q _ I.fresh⟩
end
theorem kV_is {P:Program}{w:World}{k:Key}{u:Value} (r:RelV (kV k) u):(j1y P w).is k u=true:=by
 cases k with
 | inl i=>obtain⟨t,e⟩:=(show ∃ t,u=Value.int i t from r);subst e;exact j84 P w i t
 | inr x=>obtain⟨t,e⟩:=(show ∃ t,u=Value.str x t from r);subst e;exact j85 P w x t
section
variable {X:Cx}{pins:List (Addr × Obj)}{σ:St}{H:Hp}{s:Shared}{a:Addr}{y v:V}{u r:Value}{o:Option V}{A:Around}{E:Value→Shared→Prop}
theorem Inv.big (I:Inv X pins σ H s):sysModules < s.heap.objs.size:=by
 have h:mainGlobals < s.heap.objs.size:=(I.mod.glob.keeps I.bk).lt
 exact Nat.lt_trans (by decide) h
end
theorem je2 {P:Program}{w:World}{H:Hp} (h:Heap) (hb:sysModules < h.objs.size):ObjOk P w H (h.push { cls:=.type "dict",data:=.dict #[] }) h.objs.size (.dK []) :=
 ⟨Nat.zero_le _,beq_eq_false_iff_ne.mpr (Ne.symm (Nat.ne_of_lt hb)),[],.nil,Heap.DictOf.new h⟩
def jg0:TE:=fun _ H Q=>∀ p,H p=none→Q (.ref p) (upd H p (.dK []))
section
variable {X:Cx}{pos:Pos}
theorem je3:PE X (.Dict [] [] pos) jg0:=fun pins s σ H Q I h =>
 wpAny_Dict_empty ⟨.ref s.heap.objs.size,_,I.laid (a:=s.heap.objs.size) (o:=.dK []) (t':=s.toks) (fun _ _ q=>Heap.get?_push_of_some _ q) (Nat.le_refl _) (je2 s.heap I.big),rfl,h _ (I.hok.fresh (Nat.le_refl _))⟩
end
structure M1 (X:Cx) (o:Expr) (m:Str) (apos:Pos) (e:Expr) (cpos:Pos):Prop where
 base:attributeBase o m X.env (eval o X.env)=eval o X.env
 few:((backTo cpos (starEach [e] X.env)).all (fun x=>!x.1) && (backToKw cpos (keywordEach [] X.env)).all (fun x=>x.1.isSome)
  && decide (([e]:List Expr).length+([]:List Keyword).length+(if ([]:List Keyword).isEmpty then 0 else 1) < 30))=true
 line:(apos.endLine == cpos.line)=true
 trees:backTo cpos (starEach [e] X.env)=[(false,eval e X.env)]
structure M2 (X:Cx) (o:Expr) (m:Str) (apos:Pos) (e f:Expr) (cpos:Pos):Prop where
 base:attributeBase o m X.env (eval o X.env)=eval o X.env
 few:((backTo cpos (starEach [e,f] X.env)).all (fun x=>!x.1) && (backToKw cpos (keywordEach [] X.env)).all (fun x=>x.1.isSome)
  && decide (([e,f]:List Expr).length+([]:List Keyword).length+(if ([]:List Keyword).isEmpty then 0 else 1) < 30))=true
 line:(apos.endLine == cpos.line)=true
 trees:backTo cpos (starEach [e,f] X.env)=[(false,eval e X.env),(false,eval f X.env)]
end L2
namespace Att
open PySem PySem.W PySem.Calls PyProof.Rows
theorem j3x {P:Params}{h:Heap}:∀ (ns:List Int) (vs:List Value),WellAll P h vs (ns.map WData.int)→IntsAre vs ns:=by
 intro ns
 induction ns with
 | nil =>
  intro vs w
  rw[List.map_nil] at w
  cases w
  exact .nil
 | cons n ns ih =>
  intro vs w
  rw[List.map_cons] at w
  cases w with
  | cons a b =>
   cases a
   exact .cons _ _ (ih _ b)
theorem script_of {l:OpenLaw}{n:Nat} (hn:l.most=some n) {P:Params}{h:Heap}{args:List WData}{vals:List Value}
  (hpre:l.row.toRowW.claim.pre args=true) (hwl:WellAll P h vals args) :
  ∃ a vs ns,vals=[Value.ref a]∧args=[WData.list (ns.map WData.int)]∧h.get? a=some { cls:=.type "list",data:=.seq vs.toArray }∧IntsAre vs ns∧ns.length≤n:=by
 have hsh:WShape.hasAll [] args [.list .int]=true:=(pre_splitW hpre).1
 have hc:l.pre.holds [] { args:=args }=true:=(pre_splitW hpre).2
 obtain⟨d,r,rfl,h1,h2⟩:=hasAllW_cons hsh
 obtain rfl:=hasAllW_nil h2
 obtain⟨xs,rfl,h3⟩:=hasW_list h1
 obtain⟨ns,rfl⟩:=items_int h3
 have hlen:ns.length≤n:=by
  unfold OpenLaw.pre at hc
  have h4:(WTm.not (.lt (.lit (.int (n:Int))) (.len (.arg 0)))).holds [] { args:=[.list (ns.map .int)] }=true:=by
   have h4:=(holds_andW hc).1
   rw[hn] at h4
   exact h4
  have h5:=condW_of h4 (w_not (w_lt w_lit (w_len_list (w_arg rfl))))
  rw[List.length_map] at h5
  refine Nat.le_of_not_lt fun q=>?_
  have q':(n:Int) < ((ns.length:Nat):Int):=by omega
  first
   | (rw[decide_eq_true q'] at h5;exact absurd h5 (by decide))
   | (simp at h5;omega)
 cases hwl with
 | cons w1 w2 =>
  cases w2
  cases w1 with
  | list ho hall=>exact⟨_,_,ns,rfl,rfl,ho,j3x ns _ hall,hlen⟩
theorem post_true (l:OpenLaw) (args:List WData):l.row.toRowW.claim.post args (.bool true) args=true :=
 postW_of (r:=l.row.toRowW) (X:=(true == true))
  (show WShape.has [] (.bool true) .bool=true by first | rfl | decide | simp[WShape.has,WShape.arms,WShape.armsAll])
  (show (WTm.eq .res (.lit (.bool true))).value [] { args:=args,res:=some (.bool true),after:=args }=some (.bool (true == true)) from w_eq_bool (w_res rfl) w_lit) rfl
theorem attach_call {l:OpenLaw}{n:Nat}{q:Program}{loose:List Str}{XP:(Str→Option Value)→Heap→Prop}{YP:World→Heap→Prop}{d:DefRec}
  (hn:l.most=some n) (hdf:d.params.defaults=[])
  (call:∀ (w:World) (s₀ s₁:Shared) (mg mb:Str→Option Value) (fa:Addr) (o:Obj) (pm cd doc:Value) (a:Addr) (vs:List Value) (ns:List Int),
   Ground q loose [] XP w s₀ mg mb s₁.heap→YP w s₁.heap →
   s₁.heap.get? fa=some o→o.data=.func (docDef d.name d.params d.body d.scope pm cd doc)→s₁.heap.CodeRec cd d.name→mg d.name=some (.ref fa) →
   s₁.heap.get? a=some { cls:=.type "list",data:=.seq vs.toArray }→IntsAre vs ns→ns.length≤n→s₁.gens=#[] →
   codeAny (model l.prog w) callerA (.call (.ref fa) ⟨[.ref a],[]⟩) (fun r s'=>r=.ok (.ret (.bool true))∧OldK s₁.heap s'.heap∧s'.os=s₁.os∧AllBare s'.gens) s₁) :
  WalkO q loose XP YP l.row.toRowW d [] (fun f vs=>PySem.call f vs):=by
 intro w s₀ s₁ mg mb G Y fa o pm cd doc dV kV ho hd hcd hD hmg hg args vals as hpre hlay hrd hwl hlo
 obtain rfl:dV=.none:=Dflts.none hD hdf
 obtain rfl:kV=.none:=Dflts.noKw hD
 obtain⟨a,vs,ns,rfl,rfl,hobj,hints,hlen⟩:=script_of hn hpre hwl
 refine enter_call (codeAny_mono (call w s₀ s₁ mg mb fa o pm cd doc a vs ns G Y ho (fd_plain hd) hcd hmg hobj hints hlen hg) fun r s' hq=>?_)
 obtain⟨rfl,h2,h3,h4⟩:=hq
 exact⟨.inl ⟨.bool true,.bool true,[],rfl,fun _=>rfl,.bool true,post_true l _,fun _=>⟨List.Pairwise.nil,fun _ hm=>(nomatch hm)⟩⟩,h2,h3,h4⟩
end Att
namespace L2
open PySem PySem.Spec PyProof.Rows
theorem j4n:∀ {vs:List Value}{ns:List Int},IntsAre vs ns→Vals (ns.map V.int) vs
 | _,_,.nil=>.nil
 | _,_,.cons n t h=>.cons ⟨t,rfl⟩ (j4n h)
def Only (H:Hp):Prop:=∀ b,H b=none∨∃ o xs,H b=some (.frz o (.lst xs))
theorem j9d {P:Program}{w:World}{K:PySem.W.Frag}{mg mb:Str→Option Value}{CX:CXT}{k:Nat}{fa a:Addr}{fd:FuncData}{x:Str}{sp:Sp}{s₁:Shared}{vs:List Value}{ns:List Int}
  (KX:K.In s₁.heap) (hns:s₁.heap.Ns mainGlobals mg) (hb:s₁.heap.Ns builtinsNs mb) (hbb:∀ x:Str,x≠"__name__"→mb x=bootBuiltins x) (hlim:s₁.heap.NoLimit) (hbm:∃ bm ob,mg "__builtins__"=some (.ref bm)∧bm≠builtinsNs∧s₁.heap.get? bm=some ob∧ob.cls=.type "module"∧ob.dict=some builtinsNs∧ob.data=.plain) (hg:s₁.gens=#[])
  (ha:s₁.heap.get? a=some { cls:=.type "list",data:=.seq vs.toArray }) (hi:IntsAre vs ns) (hl:ns.length≤sizeLine) (hr:Room k callerA)
  (F:∀ base:Heap,K.In base→base.Ns mainGlobals mg→FnOk P w K mg base CX k fa fd [x] sp) (hbind:∀ (s:Shared) (u:Value),BindsTo s fd ⟨[u],[]⟩ [(x,u)])
  (hsp:∀ H:Hp,Only H→SqL K H a (ns.map V.int)→sp [.ref a] H (fun v _=>v=.bl true) fun _ _ _=>False)
  (hCX:∀ H e s',CX [] H s₁ (fun _ _ _=>False) e s'→False) :
  codeAny (model P w) callerA (.call (.ref fa) ⟨[.ref a],[]⟩) (fun r s'=>r=.ok (.ret (.bool true))∧OldK s₁.heap s'.heap∧s'.os=s₁.os∧AllBare s'.gens) s₁:=by
 have rv:=j4n hi
 have lenV:=hi.length
 have core:∀ H:Hp,Only H→SqL K H a (ns.map V.int)→HOk P w H s₁.heap→(∀ b,H b≠none→b=a)→(H a≠none→K.lookup a=none) →
   codeAny (model P w) callerA (.call (.ref fa) ⟨[.ref a],[]⟩) (fun r s'=>r=.ok (.ret (.bool true))∧OldK s₁.heap s'.heap∧s'.os=s₁.os∧AllBare s'.gens) s₁:=by
  intro H hO hS hok hA hK
  have base_of:∀ {b:Addr}{o:Obj},s₁.heap.get? b=some o→H b=none→(hidT s₁.heap H).get? b=some o:=fun e n=>jdp e n
  have noA:∀ {b:Addr}{o:Obj}{es:Array DictEntry}{ep:Nat},s₁.heap.get? b=some o→o.data=.dict es ep→H b=none:=fun {b o es ep} e d=>by
   cases q:H b with
   | none=>rfl
   | some u =>
    have e':b=a:=hA b (by rw[q];simp)
    subst e'
    rw[ha] at e;cases e
    have d':Data.seq vs.toArray _=Data.dict es ep:=d
    cases d'
  have nsK:∀ {b:Addr}{m:Str→Option Value},s₁.heap.Ns b m→(hidT s₁.heap H).Ns b m:=fun {b m} ⟨o,es,ep,e,d,r⟩=>⟨o,es,ep,base_of e (noA e d),d,r⟩
  have hKb:K.In (hidT s₁.heap H):=fun b o e=>base_of (KX b o e) (by
   cases q:H b with
   | none=>rfl
   | some u =>
    have e':b=a:=hA b (by rw[q];simp)
    subst e'
    rw[hK (by rw[q];simp)] at e;cases e)
  have hM:Mod K mg (hidT s₁.heap H):=⟨hKb,nsK hns,⟨mb,nsK hb,hbb⟩,let ⟨mc,h1,h2⟩:=hlim;⟨mc,nsK h1,h2⟩,by
   obtain⟨bm,ob,b1,b2,b3,b4,b5⟩:=hbm
   refine⟨bm,ob,b1,b2,base_of b3 ?_,b4,b5⟩
   cases q:H bm with
   | none=>rfl
   | some u =>
    have e':bm=a:=hA bm (by rw[q];simp)
    subst e'
    rw[ha] at b3
    cases b3
    injection b4 with b4
    exact absurd b4 (by decide)⟩
  have e0:Env0 P w K mg (hidT s₁.heap H) callerA [] s₁ H:=⟨rfl,hM,fun b o e=>jfl e,Nat.le_of_eq (jb3 _ _),trivial,fun b hb=>absurd (show b∈([]:List Addr) from hb) (by simp),hok,.of_eq hg⟩
  refine codeAny_mono ((F _ hKb (nsK hns)).run callerA [] s₁ H ⟨[.ref a],[]⟩ [.ref a] [.ref a] _ _ hr e0 (hbind s₁ (.ref a)) (.cons rfl .nil) (hsp H hO hS)) fun r s' h=>?_
  cases r with
  | error e=>exact (hCX H e s' h).elim
  | ok fl =>
   cases fl with
   | next=>exact False.elim h
   | brk=>exact False.elim h
   | cont=>exact False.elim h
   | ret u =>
    obtain⟨v,H',os,bare,un,hok',r',q⟩:=h
    have q':v=.bl true:=q
    subst q'
    obtain rfl:u=Value.bool true:=r'
    refine⟨rfl,OldK.of_keep fun b o e=>?_,os,bare⟩
    cases q:H b with
    | none=>exact un.keep b o e q (by intro z;exact absurd (show b∈([]:List Addr) from z) (by simp)) (by simp)
    | some u =>
     rcases hO b with z | ⟨ob,xs,z⟩
     ·rw[q] at z;cases z
     ·have z2:=un.frzs b ob _ z
      obtain⟨e1,_⟩:=hok b _ z
      obtain⟨e2,_⟩:=hok' b _ z2
      rw[e] at e1;cases e1
      exact e2
 cases hk:K.lookup a with
 | some o =>
  have e:=KX a o hk
  rw[ha] at e
  cases e
  refine core (fun _=>none) (fun _=>.inl rfl) (.inr ⟨_,vs.toArray,_,hk,rfl,rfl,rfl,by rw[List.size_toArray,lenV];exact hl,by simpa using rv⟩) (fun b u z=>by have z':(none:Option HO)=some u:=z;cases z') (fun b z=>absurd rfl z) fun z=>absurd rfl z
 | none =>
  refine core (fun b=>if b=a then some (.frz { cls:=.type "list",data:=.seq vs.toArray } (.lst (ns.map V.int))) else none) (fun b=>?_) (.inl (.inr ⟨{ cls:=.type "list",data:=.seq vs.toArray },if_pos rfl⟩)) (fun b u z=>?_) (fun b z=>?_) fun _=>hk
  ·by_cases hb:b=a
   ·exact .inr ⟨_,_,if_pos hb⟩
   ·exact .inl (if_neg hb)
  ·by_cases hb:b=a
   ·have z':=(if_pos hb).symm.trans z
    cases z'
    subst hb
    exact⟨ha,by rw[List.length_map];exact hl,vs,_,rv,ha⟩
   ·have z':=(if_neg hb).symm.trans z
    cases z'
  ·by_cases hb:b=a
   ·exact hb
   ·exact absurd (if_neg hb) z
abbrev KOf {K:PySem.W.Frag}{h:Heap} (_:K.In h):PySem.W.Frag:=K
theorem walk_of {l:PySem.W.OpenLaw}{n k:Nat}{q:Program}{loose:List Str}{XP:(Str→Option Value)→Heap→Prop}{YP:World→Heap→Prop}{d:DefRec}{K:Params→PySem.W.Frag}{CX:World→CXT}{sp:World→Sp}{x:Str}
  (hn:l.most=some n) (hn2:n≤sizeLine) (hdf:d.params.defaults=[]) (hr:Room k callerA)
  (hY:∀ (w:World) (h:Heap),YP w h→(K w.params).In h)
  (F:∀ (w:World) (mg:Str→Option Value) (fa:Addr) (h:Heap),(K w.params).In h→h.Ns mainGlobals mg→mg d.name=some (.ref fa) →
   ∃ fd:FuncData,(∀ (s:Shared) (u:Value),BindsTo s fd ⟨[u],[]⟩ [(x,u)]) ∧
    ∀ base:Heap,(K w.params).In base→base.Ns mainGlobals mg→FnOk l.prog w (K w.params) mg base (CX w) k fa fd [x] (sp w))
  (hsp:∀ (w:World) (H:Hp) (a:Addr) (ns:List Int),ns.length≤n→Only H→SqL (K w.params) H a (ns.map V.int)→sp w [.ref a] H (fun v _=>v=.bl true) fun _ _ _=>False)
  (hCX:∀ (w:World) (H:Hp) (s:Shared) (e:Value) (s':Shared),CX w [] H s (fun _ _ _=>False) e s'→False) :
  PySem.W.WalkO q loose XP YP l.row.toRowW d [] (fun f vs=>PySem.call f vs):=by
 refine Att.attach_call hn hdf fun w s₀ s₁ mg mb fa o pm cd doc a vs ns G Y ho hd hcd hmg hobj hints hlen hg=>?_
 have KX:=hY w _ Y
 obtain⟨fd,hb,hF⟩:=F w mg fa _ KX G.T.g hmg
 exact j9d KX G.T.g G.T.b G.T.builtins G.T.nolimit G.T.bmain hg hobj hints (Nat.le_trans hlen hn2) hr hF hb (fun H hO hS=>hsp w H a ns hlen hO hS) fun H e s'=>hCX w H s₁ e s'
def j0q (s:Stmt) (j:Nat):Stmt:=match s with
 | .ClassDef _ _ _ body _ _ _ _ _ _ _=>body.getD j (.Pass ⟨0,0,0,0⟩)
 | _=>.Pass ⟨0,0,0,0⟩
def j2l (s:Stmt):Arguments:=match s with
 | .FunctionDef _ a _ _ _ _ _ _ _ _=>a
 | _=>{ posonlyargs:=[],args:=[],vararg:=none,kwonlyargs:=[],kw_defaults:=[],kwarg:=none,defaults:=[] }
def j1q (s:Stmt):List Stmt:=match s with
 | .FunctionDef _ _ b _ _ _ _ _ _ _=>b
 | _=>[]
def j07 (s:Stmt):Scope:=match s with
 | .FunctionDef _ _ _ _ _ _ sc _ _ _=>sc
 | _=>{ kind:=.function,names:=[],isGenerator:=false,isCoroutine:=false }
abbrev E0:XK:=fun _ _ _=>False
structure Fun (K:PySem.W.Frag) (x qual:Str) (st:Stmt) (f:Addr) (fd:FuncData):Prop where
 ex:∃ (oc:Value) (od:Option Addr) (kV doc pm:Value) (an:Option Addr) (cdv ct:Value) (osl:Array (Option Value)),
  fd=PySem.W.fnOf x qual (j2l st) (j1q st) (j07 st) .none kV doc pm an cdv ct∧K.lookup f=some ⟨oc,od,.func fd,osl⟩∧PySem.W.codeIn K cdv qual=true
 kp:PySem.W.keepIn K (.ref f)=true
section
variable {P:Program}{w:World}{K:PySem.W.Frag}{mg:Str→Option Value}{base:Heap}
theorem Fun.binds {x qual:Str}{st:Stmt}{f:Addr}{fd:FuncData}{ps:List Str} (F:Fun K x qual st f fd)
  (h:∀ (kV doc pm:Value) (an:Option Addr) (cdv ct:Value) (us:List Value),us.length=ps.length→bindArgs (PySem.W.fnOf x qual (j2l st) (j1q st) (j07 st) .none kV doc pm an cdv ct) ⟨us,[]⟩=pure (ps.zip us)):Binds K fd ps []:=by
 obtain⟨oc,od,kV,doc,pm,an,cdv,ct,osl,rfl,lk,hcd⟩:=F.ex
 exact .all (h kV doc pm an cdv ct)
theorem fun_mk {x qual:Str}{st:Stmt}{f:Addr}{oc:Value}{od an:Option Addr}{osl:Array (Option Value)}{kV doc pm cdv ct:Value} (l:K.lookup f=some ⟨oc,od,.func (PySem.W.fnOf x qual (j2l st) (j1q st) (j07 st) .none kV doc pm an cdv ct),osl⟩)
  (c:PySem.W.codeIn K cdv qual=true) (k:PySem.W.keepIn K (.ref f)=true):Fun K x qual st f (PySem.W.fnOf x qual (j2l st) (j1q st) (j07 st) .none kV doc pm an cdv ct):=⟨⟨oc,od,kV,doc,pm,an,cdv,ct,osl,rfl,l,c⟩,k⟩
end
theorem jbc {n:Nat} (h:n≤1000):n < sizeLine:=Nat.lt_of_le_of_lt h (by decide)
section
variable {X:Cx}
theorem pv (i:Nat) {x:Str}{pos:Pos} (hN:X.N[i]?=some x:=by rfl) (hv:Vis X.env.scope x:=by first | exact Or.inl rfl | exact Or.inr (Or.inl rfl) | exact Or.inr (Or.inr rfl)) (hd:(x == ("__debug__":Str))=false:=by decide)
  (hcd:(x == ("__classdict__":Str))=false:=by decide):PE X (.Name x pos) (tVar i):=pe_var hN hv hd hcd
end
theorem iteF {A B:Prop} (h:B):if false=true then A else B:=by
 rw[if_neg Bool.false_ne_true]
 exact h
theorem iteT {A B:Prop} (h:A):if true=true then A else B:=by
 rw[if_pos rfl]
 exact h
structure Pass (fs:List Addr) (n:Nat) (H:Hp) (h h':Heap):Prop where
 keep:∀ b o,h.get? b=some o→b∉fs→(b < n∨H b≠none∨∀ vs,o.data≠.fields vs)→h'.get? b=some o
 slot:∀ b o,h.get? b=some o→b∈fs→∃ sl,h'.get? b=some { o with slots:=sl }
 there:∀ b o,h.get? b=some o→∃ o',h'.get? b=some o'
theorem Pass.refl {fs:List Addr}{n:Nat}{H:Hp}{h:Heap}:Pass fs n H h h:=⟨fun _ _ e _ _=>e,fun _ o e _=>⟨o.slots,e⟩,fun _ o e=>⟨o,e⟩⟩
theorem Pass.trans {fs:List Addr}{n:Nat}{H:Hp}{h h1 h2:Heap} (x:Pass fs n H h h1) (y:Pass fs n H h1 h2):Pass fs n H h h2 :=
 ⟨fun b o e f g=>y.keep b o (x.keep b o e f g) f g,fun b o e f=>by
  obtain⟨sl,e1⟩:=x.slot b o e f
  obtain⟨sl2,e2⟩:=y.slot b _ e1 f
  exact⟨sl2,e2⟩,fun b o e=>by
  obtain⟨o1,e1⟩:=x.there b o e
  exact y.there b o1 e1⟩
def Head (n:Nat) (H:Hp) (h:Heap) (a:Addr) (vs:Array Value) (fl:Value):Prop :=
 (vs[1]?=some .none∧fl=.none)∨∃ T oT ts,vs[1]?=some (.ref T)∧n≤T∧H T=none∧T≠a∧h.get? T=some oT∧oT.data=.fields ts∧ts[3]?=some fl
structure Err (n:Nat) (H:Hp) (h:Heap) (a:Addr) (C:Value) (dx:Option Addr) (fl:Value):Prop where
 new:n≤a
 un:H a=none
 obj:∃ oe vs,h.get? a=some oe∧oe.cls=C∧oe.dict=dx∧oe.data=.fields vs∧1 < vs.size∧Head n H h a vs fl
theorem je4 (f:Array Value→Array Value) (o:Obj):(o.mapFields f).cls=o.cls:=by
 obtain⟨c,d,dt,sl⟩:=o
 cases dt <;> rfl
theorem jbd (f:Array Value→Array Value) (o:Obj):(o.mapFields f).dict=o.dict:=by
 obtain⟨c,d,dt,sl⟩:=o
 cases dt <;> rfl
theorem j13 {o:Obj}{vs:Array Value} (f:Array Value→Array Value) (e:o.data=.fields vs):(o.mapFields f).data=.fields (f vs):=by
 obtain⟨c,d,dt,sl⟩:=o
 cases e
 rfl
theorem j9e (T:Addr):(Value.ref T != Value.none)=true:=by simp
theorem ref_no (T:Addr):¬ ((Value.ref T == Value.none)=true):=by simp
theorem raw_no (L:Addr):¬ ((Value.none == rawInt L)=true):=by simp[rawInt]
section
variable {M:Model}{A:Around}{E:Value→Shared→Prop}{s:Shared}{env:Env}{outer:List Env}{base:Heap}{n:Nat}{H:Hp}{a L:Addr}{C:Value}{dx:Option Addr}{fl:Value}
theorem j9f (hl:s.heap.FunFrames base (env :: outer)) {b:Addr}{o:Obj}{vs:Array Value} (e:s.heap.get? b=some o) (hd:o.data=.fields vs):b∉frs (env :: outer):=fun hm=>by
 obtain⟨_,o2,e2,nf⟩:=hl.mem hm
 rw[e] at e2
 cases e2
 exact nf vs hd
theorem j5j {Q:Unit→Shared→Prop}{fs:List Addr} (x:Err n H s.heap a C dx fl) (m:Option Addr) (nh:∃ oe vs T,s.heap.get? a=some oe∧oe.data=.fields vs∧vs[1]?=some (.ref T))
  (nf:∀ b o vs,s.heap.get? b=some o→o.data=.fields vs→b∉fs)
  (h:∀ h',Pass fs n H s.heap h'→Err n H h' a C dx (m.elim .none fun f=>rawInt f)→Q () { s with heap:=h' }):wpAny M A (setFlight (.ref a) m) Q E s:=by
 obtain⟨new,un,oe,vs,ea,ec,ed,edat,sz,hd⟩:=x
 obtain⟨oe2,vs2,T2,ea2,ed2,e12⟩:=nh
 rw[ea] at ea2;cases ea2
 rw[edat] at ed2;cases ed2
 rcases hd with⟨e0,_⟩ | ⟨T,oT,ts,e1,nT,uT,neT,eT,dT,e3⟩
 ·rw[e0] at e12;cases e12
 unfold setFlight
 refine wpAny_bind (wpAny_field ea edat e1 ?_)
 rw[if_pos (j9e T)]
 have h3:3 < ts.size:=(Array.getElem?_eq_some_iff.mp e3).1
 refine wpAny_setField eT dT h3 (h _ ⟨fun b o e _ hb=>?_,fun b o e hb=>?_,fun b o e=>?_⟩ ⟨new,un,oe,vs,?_,ec,ed,edat,sz,.inr ⟨T,_,_,e1,nT,uT,neT,Heap.get?_update_self _ eT (Obj.isFreed_of_fields (j13 _ dT)),j13 _ dT,?_⟩⟩)
 ·rw[Heap.get?_update_other _ _ fun q=>?_]
  ·exact e
  ·subst q
   rw[e] at eT
   cases eT
   rcases hb with hb | hb | hb
   ·exact absurd nT (Nat.not_le.mpr hb)
   ·exact hb uT
   ·exact hb ts dT
 ·have q:T≠b:=fun q=>by subst q;exact nf T oT ts eT dT hb
  rw[Heap.get?_update_other _ _ q]
  exact⟨o.slots,e⟩
 ·by_cases q:T=b
  ·subst q;exact⟨_,Heap.get?_update_self _ eT (Obj.isFreed_of_fields (j13 _ dT))⟩
  ·exact⟨o,by rw[Heap.get?_update_other _ _ q];exact e⟩
 ·rw[Heap.get?_update_other _ _ neT];exact ea
 ·simp[h3]
theorem j7k {Q:Unit→Shared→Prop}{hd:Value}{had:Bool} (hfr:A.frames=some (env :: outer)) (hl:s.heap.FunFrames base (env :: outer)) (hf:env.frame=some L)
  (nw:n≤a) (un:H a=none) {oe:Obj}{vs:Array Value} (ea:s.heap.get? a=some oe) (edat:oe.data=.fields vs) (sz:1 < vs.size) (fresh:∀ b,s.heap.objs.size≤b→H b=none)
  (h:∀ h',Pass (frs (env :: outer)) n H s.heap h'→Err n H h' a oe.cls oe.dict (rawInt L)→(∃ o2 us T,h'.get? a=some o2∧o2.data=.fields us∧us[1]?=some (.ref T))→Q () { s with heap:=h' }) :
  wpAny M A (do setField (.ref a) 1 (← EntryCells.newEntry hd (← frameOf env) .none (rawInt L) .none (← entryPlaceOf L had))) Q E s:=by
 have na:=j9f hl ea edat
 refine wpAny_bind (wpAny_frameOf_fun hfr hl hf fun h1 so=>?_)
 refine wpAny_bind (wpAny_entryPlaceOf fun where_ isP=>?_)
 unfold EntryCells.newEntry
 unfold newFields
 refine wpAny_bind (wpAny_newObj_type ?_ (isP.sizeOk5 _ _ _ _ _))
 have ea1:h1.get? a=some oe:=(so.2.1 a na).trans ea
 have lt1:a < h1.objs.size:=Heap.lt_size ea1
 refine wpAny_setField (Heap.get?_push_of_some (h:=h1) _ ea1) edat sz (h _ ⟨fun b o e nb hb=>?_,fun b o e hb=>?_,fun b o e=>?_⟩
  ⟨nw,un,_,_,Heap.get?_update_self _ (Heap.get?_push_of_some (h:=h1) _ ea1) (Obj.isFreed_of_fields (j13 _ edat)),je4 _ _,jbd _ _,j13 _ edat,by simpa using sz,
   .inr ⟨h1.objs.size,?oT,?ts,by simp[sz],Nat.le_trans nw (Nat.le_of_lt lt1),fresh _ (Nat.le_of_eq so.1.symm),Nat.ne_of_gt lt1,?eT,?dT,?e3⟩⟩ ⟨_,_,h1.objs.size,Heap.get?_update_self _ (Heap.get?_push_of_some (h:=h1) _ ea1) (Obj.isFreed_of_fields (j13 _ edat)),j13 _ edat,by simp[sz]⟩)
 ·have q:a≠b:=fun q=>by
   subst q
   rw[e] at ea
   cases ea
   rcases hb with hb | hb | hb
   ·exact absurd nw (Nat.not_le.mpr hb)
   ·exact hb un
   ·exact hb vs edat
  rw[Heap.get?_update_other _ _ q]
  exact Heap.get?_push_of_some _ ((so.2.1 b nb).trans e)
 ·have q:a≠b:=fun q=>by subst q;exact na hb
  obtain⟨sl,e2⟩:=so.2.2 b o e
  rw[Heap.get?_update_other _ _ q]
  exact⟨sl,Heap.get?_push_of_some _ e2⟩
 ·obtain⟨sl,e2⟩:=so.2.2 b o e
  by_cases q:a=b
  ·subst q;exact⟨_,Heap.get?_update_self _ (Heap.get?_push_of_some (h:=h1) _ ea1) (Obj.isFreed_of_fields (j13 _ edat))⟩
  ·exact⟨_,by rw[Heap.get?_update_other _ _ q];exact Heap.get?_push_of_some _ e2⟩
 case eT =>
  rw[Heap.get?_update_other _ _ (Nat.ne_of_lt lt1)]
  refine Heap.get?_push_size h1 ?_
  rfl
 case dT=>rfl
 case e3=>first | (simp;done) | (rcases isP with rfl | ⟨_,_,_,_,_,_,_,rfl⟩ <;> simp)
theorem j4o {Q:Unit→Shared→Prop} (hfr:A.frames=some (env :: outer)) (hl:s.heap.FunFrames base (env :: outer)) (hf:env.frame=some L)
  (x:Err n H s.heap a C dx fl) (hm:fl=.none∨fl=rawInt L) (fresh:∀ b,s.heap.objs.size≤b→H b=none)
  (h:∀ h',Pass (frs (env :: outer)) n H s.heap h'→Err n H h' a C dx (rawInt L)→(∃ o2 us T,h'.get? a=some o2∧o2.data=.fields us∧us[1]?=some (.ref T))→Q () { s with heap:=h' }) :
  wpAny M A (noteFrame (.ref a) env) Q E s:=by
 obtain⟨new,un,oe,vs,ea,ec,ed,edat,sz,hd⟩:=id x
 unfold noteFrame
 simp only[hf]
 rcases hd with⟨e1,_⟩ | ⟨T,oT,ts,e1,nT,uT,neT,eT,dT,e3⟩
 ·refine wpAny_bind (wpAny_field ea edat e1 ?_)
  rw[if_neg (by decide)]
  refine j7k hfr hl hf new un ea edat sz fresh fun h' ps er nh=>h h' ps ?_ nh
  rw[← ec,← ed];exact er
 ·refine wpAny_bind (wpAny_field ea edat e1 ?_)
  rw[if_pos (j9e T)]
  refine wpAny_bind (wpAny_field eT dT e3 ?_)
  rcases hm with hm | hm
  ·subst hm
   rw[if_neg (raw_no L)]
   have h3:3 < ts.size:=(Array.getElem?_eq_some_iff.mp e3).1
   refine wpAny_bind (wpAny_setField eT dT h3 ?_)
   have oth:∀ b,b≠T→(s.heap.update T (Obj.mapFields (·.setIfInBounds 3 Value.none))).get? b=s.heap.get? b:=fun b hb=>Heap.get?_update_other _ _ (Ne.symm hb)
   have nT':=j9f hl eT dT
   refine j7k (s:={ s with heap:=s.heap.update T (Obj.mapFields (·.setIfInBounds 3 Value.none)) }) hfr (hl.of_keeps fun b o e nf=>⟨o,?_,rfl⟩) hf new un ((oth a (Ne.symm neT)).trans ea) edat sz (fun b hb=>fresh b ?_) fun h' ps er nh=>h h' ?_ ?_ nh
   ·refine (oth b fun q=>?_).trans e
    subst q
    rw[e] at eT
    cases eT
    exact nf ts dT
   ·have:(s.heap.update T (Obj.mapFields (·.setIfInBounds 3 Value.none))).objs.size=s.heap.objs.size:=by simp
    exact this ▸ hb
   ·refine Pass.trans ⟨fun b o e _ hb=>?_,fun b o e hb=>?_,fun b o e=>?_⟩ ps
    ·refine (oth b fun q=>?_).trans e
     subst q
     rw[e] at eT
     cases eT
     rcases hb with hb | hb | hb
     ·exact absurd nT (Nat.not_le.mpr hb)
     ·exact hb uT
     ·exact hb ts dT
    ·exact⟨o.slots,(oth b fun q=>nT' (q ▸ hb)).trans e⟩
    ·by_cases q:b=T
     ·subst q;exact⟨_,Heap.get?_update_self _ eT (Obj.isFreed_of_fields (j13 _ dT))⟩
     ·exact⟨o,(oth b q).trans e⟩
   ·rw[← ec,← ed];exact er
  ·subst hm
   rw[if_pos (by simp)]
   exact wpAny_pure (h s.heap .refl x ⟨oe,vs,T,ea,edat,e1⟩)
theorem jbe {Q:Unit→Shared→Prop} (hfr:A.frames=some (env :: outer)) (hl:s.heap.FunFrames base (env :: outer)) (hf:env.frame=some L)
  (x:Err n H s.heap a C dx fl) (hm:fl=.none∨fl=rawInt L) (fresh:∀ b,s.heap.objs.size≤b→H b=none)
  (h:∀ h',Pass (frs (env :: outer)) n H s.heap h'→Err n H h' a C dx .none→Q () { s with heap:=h' }) :
  wpAny M A (leaving env (.ref a)) Q E s:=by
 unfold leaving
 refine wpAny_bind (j4o hfr hl hf x hm fresh fun h1 p1 x1 nh=>?_)
 refine j5j (s:={ s with heap:=h1 }) (fs:=frs (env :: outer)) x1 none nh (fun b o vs e d hb=>?_) fun h2 p2 x2=>h h2 (p1.trans p2) x2
 obtain⟨_,o0,e0,nf⟩:=hl.mem hb
 obtain⟨sl,e1⟩:=p1.slot b o0 e0 hb
 have e:h1.get? b=some o:=e
 rw[e1] at e
 cases e
 exact nf vs d
end
section
variable {X:Cx}{pins:List (Addr × Obj)}{σ:St}{H:Hp}{s:Shared}{h':Heap}
open Classical in
theorem Inv.passed (I:Inv X [] σ H s) (hp:X.pn=[]) (u:Pass (frs X.stack) X.s₀.heap.objs.size H s.heap h'):Inv X [] σ H { s with heap:=h' }:=by
 let ch:=(List.range s.heap.objs.size).filter fun b=>decide (X.s₀.heap.objs.size≤b∧H b=none∧∃ o vs,s.heap.get? b=some o∧o.data=.fields vs)
 have inc:∀ b o,s.heap.get? b=some o→b∉ch→b < X.s₀.heap.objs.size∨H b≠none∨∀ vs,o.data≠.fields vs:=fun b o e hb=>by
  by_cases h1:b < X.s₀.heap.objs.size
  ·exact .inl h1
  by_cases h2:H b≠none
  ·exact .inr (.inl h2)
  refine .inr (.inr fun vs q=>hb ?_)
  refine List.mem_filter.mpr ⟨List.mem_range.mpr (Heap.lt_size e),decide_eq_true ⟨Nat.le_of_not_lt h1,Classical.not_not.mp h2,o,vs,e,q⟩⟩
 have of:∀ b,b∈ch→X.s₀.heap.objs.size≤b∧H b=none∧∃ o vs,s.heap.get? b=some o∧o.data=.fields vs:=fun b hb=>of_decide_eq_true (List.mem_filter.mp hb).2
 refine I.call (ch:=ch) (g':=s.gens) (d':=s.drawn) (t':=s.toks) ⟨fun b o e n hb hx=>u.keep b o e hb (inc b o e hx),fun b o e n hb hx=>u.slot b o e hb,fun _ _ _ n _=>n,fun b o e _=>u.there b o e,fun _ _ q=>q,fun _ _ _ q=>q,fun _ ps q=>⟨#[],by rw[q];simp⟩⟩ ?_ I.bare fun b hb=>?_
 ·intro b o e
  refine (I.hok b o e).stay (fun c w hc q=>?_) (fun _ q=>q) fun _ _ q=>q
  have tr:H c≠none:=by
   rcases hc with rfl | hc
   ·rw[e];simp
   ·rw[hc];simp
  exact u.keep c w q (fun z=>tr (I.stkFree c z)) (.inr (.inl tr))
 ·obtain⟨h1,_,o,vs,e,d⟩:=of b hb
  refine⟨.inr h1,fun q=>?_,fun x c hc q=>?_,fun p hp'=>?_⟩
  ·subst q
   obtain⟨m,⟨o2,es,ep,e2,d2,_⟩,_⟩:=I.loc
   rw[e] at e2;cases e2
   rw[d] at d2;cases d2
  ·subst q
   obtain⟨v,hv⟩:=I.cell x c hc
   obtain⟨o2,e2,d2⟩:=hv
   rw[e] at e2;cases e2
   rw[d] at d2;cases d2
  ·rw[hp] at hp';cases hp'
end
theorem Head.mono {n m:Nat}{H:Hp}{h:Heap}{a:Addr}{vs:Array Value}{fl:Value} (x:Head n H h a vs fl) (hm:m≤n):Head m H h a vs fl:=by
 rcases x with x | ⟨T,oT,ts,e1,nT,r⟩
 ·exact .inl x
 ·exact .inr ⟨T,oT,ts,e1,Nat.le_trans hm nT,r⟩
theorem Err.mono {n m:Nat}{H:Hp}{h:Heap}{a:Addr}{C:Value}{dx:Option Addr}{fl:Value} (x:Err n H h a C dx fl) (hm:m≤n):Err m H h a C dx fl:=by
 obtain⟨nw,un,oe,vs,ea,ec,ed,edat,sz,hd⟩:=x
 exact⟨Nat.le_trans hm nw,un,oe,vs,ea,ec,ed,edat,sz,hd.mono hm⟩
def XS (X:Cx) (E:XK) (e:Value) (s:Shared):Prop :=
 ∃ σ H a C dx fl,e=.ref a∧Inv X [] σ H s∧Err X.s₀.heap.objs.size H s.heap a C dx fl∧(fl=.none∨fl=rawInt X.env.locals)∧E C dx H
def CXE (P:Program) (w:World):CXT:=fun outer H s E e s' =>
 ∃ a C dx H',e=.ref a∧s'.os=s.os∧AllBare s'.gens∧Un (frs outer) [] H H' s.heap s'.heap∧HOk P w H' s'.heap∧Err s.heap.objs.size H' s'.heap a C dx .none∧E C dx H'
theorem passE0 {X:Cx}{P:Program}{w:World}:j2k (CXE P w) X E0:=fun _ _ _ _ _ _ _ h=>by
 obtain⟨_,_,_,_,_,_,_,_,_,_,q⟩:=h
 exact q.elim
section
variable {X:Cx}{E:XK}
structure Own (X:Cx):Prop where
 stk:X.stack=X.env :: X.outer
 frm:X.env.frame=some X.env.locals
 pn:X.pn=[]
theorem passX (O:Own X):PassesOwn (model X.prog X.w) X.A X.env (XS X E):=fun e s' h=>by
 obtain⟨σ,H,a,C,dx,fl,rfl,I,er,hm,q⟩:=h
 have fr:X.A.frames=some (X.env :: X.outer):=by rw[← O.stk];exact I.ok.frames
 have hl:s'.heap.FunFrames X.base (X.env :: X.outer):=by rw[← O.stk];exact I.stack
 refine j4o fr hl O.frm er hm (fun b hb=>I.hok.fresh hb) fun h1 p1 er1 nh=>?_
 rw[← O.stk] at p1
 have I1:=I.passed O.pn p1
 obtain⟨o2,us,T,e2,d2,e12⟩:=nh
 refine wpAny_bind (wpAny_field (s:={ s' with heap:=h1 }) e2 d2 e12 ?_)
 rw[if_neg (ref_no T)]
 rw[O.frm]
 refine j5j (s:={ s' with heap:=h1 }) (fs:=frs X.stack) er1 (some X.env.locals) ⟨o2,us,T,e2,d2,e12⟩ (fun b o vs e d hb=>?_) fun h2 p2 er2=>?_
 ·obtain⟨_,o0,e0,nf⟩:=I1.stack.mem hb
  have e:h1.get? b=some o:=e
  have e0:h1.get? b=some o0:=e0
  rw[e] at e0;cases e0
  exact nf vs d
 ·exact⟨σ,H,a,C,dx,_,rfl,I1.passed O.pn p2,er2,.inr rfl,q⟩
theorem callX {pins:List (Addr × Obj)}{σ:St}{H:Hp}{s s':Shared}{e:Value} (O:Own X) (I:Inv X pins σ H s) (h:CXE X.prog X.w X.stack H s E e s'):XS X E e s':=by
 obtain⟨a,C,dx,H',rfl,ho,hg,u,hok,er,q⟩:=h
 have J:=I.call' (ch:=[]) ho u hok hg fun b z=>absurd z (by simp)
 refine⟨σ,H',a,C,dx,.none,rfl,⟨J.ok,J.os,J.bare,J.base,J.loc,J.cell,J.free,J.freeC,fun p hp=>J.pin p ?_,J.hok,J.len⟩,er.mono I.sz,.inl rfl,q⟩
 exact List.mem_append_left _ (by simpa using hp)
end
section
variable {X:Cx}{E:XK}
theorem PSs.wished {st:List Stmt}{t:TS}{E1:Value→Shared→Prop} (h:PSs (X.wish E1) st t) (he:∀ e s,E1 e s→X.xe e s):PSs X st t:=fun pins s σ H D I hw =>
 wpAny_mono (h pins s σ H D (I.wish _) hw) (fun _ _ q=>q.unwish) he
theorem j3w {CX:CXT}{P:Program}{w:World}{K:PySem.W.Frag}{mg:Str→Option Value}{base:Heap}{N:List Str}{qual:Str}{scope:Scope}{f:Addr}{cd:Value}{A:Around}{outer:List Env}{s:Shared}{H:Hp}:Own (cxOf CX P w K mg base N qual scope f cd A outer s H E):=⟨rfl,rfl,rfl⟩
theorem leftX {P:Program}{w:World}{K:PySem.W.Frag}{mg:Str→Option Value}{base:Heap}{N:List Str}{qual:Str}{scope:Scope}{f:Addr}{cd:Value}{A:Around}{outer:List Env}{s:Shared}{H:Hp} (e:Value) (s':Shared)
  (h:XS (cxOf (CXE P w) P w K mg base N qual scope f cd A outer s H E) E e s'):(cxOf (CXE P w) P w K mg base N qual scope f cd A outer s H E).xe e s':=by
 obtain⟨σ,H1,a,C,dx,fl,rfl,I,er,hm,q⟩:=h
 refine jbe (outer:=outer) I.ok.frames I.stack rfl er hm (fun b hb=>I.hok.fresh hb) fun h' ps er'=>?_
 have I1:=I.passed rfl ps
 exact⟨a,C,dx,H1,rfl,I1.os,I1.bare,I1.base,I1.hok,er',q⟩
end
abbrev errObj (C:Addr) (t:Addr):Obj:={ cls:=.ref C,data:=.fields #[.ref t,.none,.none,.none,.bool false,.none] }
abbrev argObj (us:List Value):Obj:={ cls:=.type "tuple",data:=.seq us.toArray }
section
variable {R:Result→Shared→Prop}{prog:Program}{w:World}{A:Around}{h:Heap}{os:OsState}{g:Array GenState}{d:Drawn}{t:Nat}
variable {nm q:Str}{C N f:Addr}{bs bm bmB:List Value}{hdct:Bool}{sn:List Str}{sub:List Value}{ab:Bool}{col:Option Bool}{dd:Option Addr}{k0 k1 k2 k3 k5:Option Value}{B newId initId:String}{us:List Value}
theorem jbf (F:ExcBaseFacts B newId initId bmB) (c0:bm.contains (.type B)=true) {M:Model}{E:Value→Shared→Prop}{Q:Unit→Shared→Prop} (hC:h.get? C=some (excClassObj nm q C N bs bm hdct sn sub ab col dd k0 k1 k2 k3 k5 newId))
  (hq:Q () ⟨h,g,d,t,os⟩):wpAny M A (checkBuiltinCall newId ⟨.ref C :: us,[]⟩) Q E ⟨h,g,d,t,os⟩:=by
 have cB:(Value.ref C :: bm).contains (.type B)=true:=by rw[List.contains_cons,c0,Bool.or_true]
 have st:=F.noStar
 simp only[checkBuiltinCall,F.newRow,F.newSplit,F.newKind]
 repeat (first | refine wpAny_loadPart_at hC ?_ | (refine wpAny_isSubtype_exc hC ?_;rw[cB]) | refine wpAny_staticBase_exc hC ?_ | refine wpAny_madeBy_exc hC ?_ | simp only[bne_self_eq_false,Bool.false_eq_true,if_false] | wp_step)
 exact hq
theorem jg1 (F:ExcBaseFacts B newId initId bmB) (c0:bm.contains (.type B)=true) (cA:bm.contains (.type "AttributeError")=false) (cN:bm.contains (.type "NameError")=false)
  (hC:h.get? C=some (excClassObj nm q C N bs bm hdct sn sub ab col dd k0 k1 k2 k3 k5 newId))
  (hq:R (.ok (.ret (.ref (h.objs.size+1)))) ⟨(h.push (argObj us)).push (errObj C h.objs.size),g,d,t,os⟩) (hl:us.length≤sizeLine) :
  codeAny (model prog w) A (.builtin newId ⟨.ref C :: us,[]⟩) R ⟨h,g,d,t,os⟩:=by
 have en:=F.ends
 have xB:(Value.ref C :: bm).contains (.type B)=true:=by rw[List.contains_cons,c0,Bool.or_true]
 have xA:(Value.ref C :: bm).contains (.type "AttributeError")=false:=by rw[List.contains_cons,cA];rfl
 have xN:(Value.ref C :: bm).contains (.type "NameError")=false:=by rw[List.contains_cons,cN];rfl
 have hrest:=hl
 refine (codeAny_builtinAt F.entry ?_)
 unfold PySem.Builtin.«BaseException.__new__»
 refine PySem.wpAt_bind ?_
 show PySem.wpAt _ _ _ (stack >>= _) _ _ _
 refine PySem.wpAt_bind (PySem.wpAt_stack fun p below=>PySem.wpAt_of_wpAny ?_)
 wp_walk
 refine PySem.wpAt_of_wpAny ?_
 rw[F.owner]
 repeat (first | with_reducible refine wpAny_madeHere_exc F.canon hC ?_ | with_reducible refine wpAny_loadPart_at hC ?_ | (with_reducible refine wpAny_isSubtype_exc hC ?_;first | rw[xB] | rw[xA] | rw[xN]) | wp_step)
 show R _ _
 rw[Heap.size_push]
 exact hq
theorem je5 (F:ExcBaseFacts B newId initId bmB) (c0:bm.contains (.type B)=true) (cA:bm.contains (.type "AttributeError")=false) (cN:bm.contains (.type "NameError")=false)
  (hC:h.get? C=some (excClassObj nm q C N bs bm hdct sn sub ab col dd k0 k1 k2 k3 k5 newId)) (hi:PySem.W.Looks (model prog w) h (typeLookup (.ref C) "__init__") (some (.ref f)))
  (hb:∀ self,PySem.W.Looks (model prog w) h (bindSpecial (.ref f) self) (.ref f,[self])) (hl:us.length≤sizeLine)
  (hq:codeAny (model prog w) (A.under (.builtin "type.__call__" ⟨.ref C :: us,[]⟩)) (.call (.ref f) ⟨.ref (h.objs.size+1) :: us,[]⟩) (PySem.W.InitBack (h.objs.size+1) R)
   ⟨(h.push (argObj us)).push (errObj C h.objs.size),g,d,t,os⟩):codeAny (model prog w) A (.call (.ref C) ⟨us,[]⟩) R ⟨h,g,d,t,os⟩:=by
 have ty:(⟨h,g,d,t,os⟩:Shared).TypeIs (.ref C) "type":=⟨_,hC,rfl⟩
 have fa:=tc_lookup
 have fb:=tc_bind (.ref C)
 refine codeAny_of_tree ?_
 show wpAny _ _ (callAny (.ref C) ⟨us,[]⟩) _ _ _
 repeat (any_goals (first | with_reducible refine wpAny_loadPart_at hC ?_ | assumption | wp_step))
 refine⟨rfl,?_⟩
 refine (codeAny_call_builtin_at (Code.quiet_builtin _ (by decide +kernel)) entry_typeCall (wpAny_check_type_call_sub hC ?_))
 repeat (first | with_reducible refine wpAny_madeBy_exc hC ?_ | with_reducible refine wpAny_loadPart_at hC ?_ | wp_step)
 refine codeAny_call_builtin_code (Code.quiet_builtin _ F.quiet) (jbf F c0 hC ?_)
 refine jg1 F c0 cA cN hC ?_ hl
 show wpAny _ _ _ _ _ _
 have k:∀ b o,h.get? b=some o→((h.push (argObj us)).push (errObj C h.objs.size)).get? b=some o:=fun b o e=>Heap.get?_push_of_some _ (Heap.get?_push_of_some _ e)
 have hx:((h.push (argObj us)).push (errObj C h.objs.size)).get? (h.objs.size+1)=some (errObj C h.objs.size):=by heap_get
 have cC:(Value.ref C :: bm).contains (.ref C)=true:=by simp
 unfold isInstance
 repeat (first | with_reducible refine wpAny_loadPart_at hx ?_ | wp_step)
 show wpAny _ _ (isSubtype (.ref C) (.ref C)) _ _ _
 refine wpAny_isSubtype_exc (k _ _ hC) ?_
 rw[cC]
 repeat (first | with_reducible refine wpAny_loadPart_at hx ?_ | wp_step)
 show wpAny _ _ (typeLookup (.ref C) "__init__") _ _ _
 refine hi _ _ _ _ k ?_
 dsimp only
 refine wpAny_holding (wpAny_bind (hb _ _ _ _ _ k ?_))
 refine wpAny_bind (wpAny_call (codeAny_mono hq fun r s' z=>?_))
 rcases r with er | (_ | _ | _ | _) <;> first | exact z | exact z.elim | skip
 obtain⟨rfl,z⟩:=z
 first | exact wpAny_pure (wpAny_pure z) | (wp_walk;exact z)
end
open PySem.Builtin PySem.Builtin.ObjectAttr
section
variable {E:Value→Shared→Prop}{prog:Program}{w:World}{A:Around}{h:Heap}{os:OsState}{g:Array GenState}{d:Drawn}{t:Nat}
variable {nm q:Str}{C N x:Addr}{bs bm:List Value}{sn:List Str}{sub:List Value}{ab:Bool}{col:Option Bool}{dd:Option Addr}{k0 k1 k2 k3 k5:Option Value}{newId:String}{o:Obj}{name:Str}{v:Value}
theorem jbg {tk:Tok}{Q:Fin→Shared→Prop} (hp:refuseLoop (.ref x) "__setattr__" bm=pure ())
  (hC:h.get? C=some (excClassObj nm q C N bs bm true sn sub ab col dd k0 k1 k2 k3 k5 newId)) (ln:PySem.W.Looks (model prog w) h (typeLookup (.ref C) name) none)
  (hx:h.get? x=some o) (hc:o.cls=.ref C) (hnc:∀ c,o.data≠.cls c) (hdn:o.dict=none)
  (hq:∀ h' tk',h'.get? x=some { o with dict:=some h.objs.size }→h'.Ns1 h.objs.size (fun y=>if y=name then some v else none)→(∀ b ob,b≠x→h.get? b=some ob→h'.get? b=some ob)→Q (.done (.ret .none)) ⟨h',g,d,tk',os⟩):wpAny (model prog w) A (PySem.Builtin.«object.__setattr__» ⟨[.ref x,.str name tk,v],[]⟩) Q E ⟨h,g,d,t,os⟩:=by
 unfold PySem.Builtin.«object.__setattr__»
 repeat (first | rw[refuse_eq] | (rw[refuseLoop_ref,hp]) | (with_reducible refine wpAny_loadPart_at hx ?_;rw[hc]) | with_reducible refine wpAny_mroOf_exc hC ?_  | wp_step)
 show wpAny _ _ (typeLookup (.ref C) name) _ _ _
 refine ln _ _ _ _ (fun _ _ e=>e) ?_
 repeat (first | with_reducible refine wpAny_loadPart_at hC ?_ | (with_reducible refine wpAny_loadPart_at hx ?_;rw[hc]) | wp_step)
 rw[hdn]
 rw[if_neg (by simp[typeHasDict])]
 split
 ·rename_i hcd
  cases hcd
 split
 ·rename_i c hcd
  exact absurd hcd (hnc c)
 have hx1:(h.push { cls:=.type "dict",data:=.dict #[] }).get? x=some o:=Heap.get?_push_of_some _ hx
 have lt:x < h.objs.size:=Heap.lt_size hx
 refine wpAny_bind (wpAny_alloc' (wpAny_bind (wpAny_update' hx1 (wpAny_pure ?_))))
 have gd:((h.push { cls:=.type "dict",data:=.dict #[] }).update x fun o=>{ cls:=o.cls,dict:=some h.objs.size,data:=o.data,slots:=o.slots }).get? h.objs.size=some { cls:=.type "dict",data:=.dict #[] } :=
  (Heap.get?_update_ne _ _ _ _ (Nat.ne_of_gt lt)).trans (Heap.get?_push_at rfl rfl)
 show wpAny (model prog w) A (storeInDict h.objs.size (.str name tk) name v) _ _ _
 unfold storeInDict
 unfold newKeyGuard
 refine wpAny_bind (wpAny_pure (wpAny_bind (wpAny_nsSet1 (Heap.Ns1.of_empty ⟨_,#[],_,gd,rfl,fun e he=>absurd he (by simp),fun _=>rfl⟩) fun h' hn' hs=>?_)))
 obtain⟨o1,es1,_,eo,ed,few⟩:=hn'.count (Within.cons name v Within.nil)
 have fits:es1.size≤sizeLine:=Nat.le_trans few (by rw[sizeLine_eq];simp)
 refine wpAny_bind (wpAny_lookBehind eo (by rw[ed];exact pastItsLine_dict (Nat.le_succ_of_le fits)) ?_)
 wp_walk
 refine hq h' _ ?_ ?_ fun b ob hb e=>?_
 ·refine (hs.2 x (Nat.ne_of_lt lt)).trans (Heap.get?_update_self _ hx1 ?_)
  have live:=(Heap.get?_some_iff.mp hx).2
  obtain⟨o1,o2,dt,o4⟩:=o
  cases dt <;> first | rfl | exact live
 ·obtain⟨_,_,_,a1,a2,a3,a4,a5⟩:=hn'
  exact⟨_,_,_,a1,a2,a3,a4,fun y=>by rw[a5 y]⟩
 ·exact (hs.2 b (Nat.ne_of_lt (Heap.lt_size e))).trans ((Heap.get?_update_ne _ _ _ _ hb).trans (Heap.get?_push_of_some _ e))
theorem jbh {Q:Unit→Shared→Prop} (hp:refuseLoop (.ref x) "__setattr__" bm=pure ()) (ho:bm.contains (.type "object")=true)
  (hC:h.get? C=some (excClassObj nm q C N bs bm true sn sub ab col dd k0 k1 k2 k3 k5 newId)) (ls:PySem.W.Looks (model prog w) h (typeLookup (.ref C) "__setattr__") (some (.builtin "object.__setattr__"))) (ln:PySem.W.Looks (model prog w) h (typeLookup (.ref C) name) none)
  (hx:h.get? x=some o) (hc:o.cls=.ref C) (hnc:∀ c,o.data≠.cls c) (hdn:o.dict=none)
  (hq:∀ h' tk',h'.get? x=some { o with dict:=some h.objs.size }→h'.Ns1 h.objs.size (fun y=>if y=name then some v else none)→(∀ b ob,b≠x→h.get? b=some ob→h'.get? b=some ob)→Q () ⟨h',g,d,tk',os⟩):wpAny (model prog w) A (setAttr (.ref x) name v) Q E ⟨h,g,d,t,os⟩:=by
 have so:=PySem.F.store_object
 have fb:=so.slot.bind (.ref x)
 have sub:PySem.W.Looks (model prog w) h (isInstance (.ref x) (.type "object")) true:=fun A Q E s k z=>by
  obtain⟨h2,g2,d2,t2,os2⟩:=s
  unfold isInstance
  have cB:(Value.ref C :: bm).contains (.type "object")=true:=by rw[List.contains_cons,ho,Bool.or_true]
  repeat (first | (with_reducible refine wpAny_loadPart_at (k _ _ hx) ?_;rw[hc]) | (with_reducible refine wpAny_isSubtype_exc (k _ _ hC) ?_;rw[cB]) | wp_step)
  exact z
 unfold setAttr
 unfold callSpecial?
 unfold specialOf
 repeat (any_goals (first | assumption | (with_reducible refine wpAny_loadPart_at hx ?_;rw[hc]) | wp_step))
 show wpAny _ _ (typeLookup (.ref C) "__setattr__") _ _ _
 refine ls _ _ _ _ (fun _ _ e=>e) ?_
 dsimp only
 refine wpAny_holding ?_
 rw[fb]
 refine wpAny_bind (wpAny_pure (wpAny_bind (wpAny_call ?_)))
 refine codeAny_call_builtin so.slot.plain so.entry (@PySem.W.check_slot (model prog w) _ _ _ "object.__setattr__" "object" "__setattr__" (.ref x) [.str name _,v] [] _ so.kind so.split sub (so.args (.ref x) (.str name _) v) ?_)
 refine jbg hp hC ln hx hc hnc hdn fun h' tk' e1 e2 e3=>?_
 exact wpAny_pure (wpAny_pure (hq h' tk' e1 e2 e3))
end
def cut (H:Hp) (a:Addr):Hp:=fun b=>if b=a then none else H b
theorem j6j {H:Hp}{a:Addr}:cut H a a=none:=by unfold cut;rw[if_pos rfl]
theorem j5k {H:Hp}{a b:Addr} (h:b≠a):cut H a b=H b:=by unfold cut;rw[if_neg h]
section
variable {X:Cx}{pins:List (Addr × Obj)}{σ:St}{H:Hp}{s:Shared}{a:Addr}{φ:Heap→Prop}
theorem HOk.cut {P:Program}{w:World}{h:Heap} (x:HOk P w H h) (ea:H a=some (.ext φ)):HOk P w (cut H a) h:=fun b o e=>by
 have hb:b≠a:=fun q=>by subst q;rw[j6j] at e;cases e
 rw[j5k hb] at e
 have keep:∀ c u,H c=some u→u≠.ext φ→L2.cut H a c=some u:=fun c u q ne=>by
  rw[j5k fun z=>ne ?_]
  ·exact q
  ·subst z;rw[ea] at q;cases q;rfl
 exact (x b o e).stay (fun c u _ q=>q) (fun c q=>keep c _ q (by simp)) fun c xs q=>keep c _ q (by simp)
theorem Inv.cut (I:Inv X pins σ H s) (ea:H a=some (.ext φ)):Inv X pins σ (cut H a) s:=by
 have no:∀ b,H b=none→L2.cut H a b=none:=fun b e=>by
  by_cases q:b=a
  ·subst q;exact j6j
  ·rw[j5k q];exact e
 have keep:∀ c u,H c=some u→u≠.ext φ→L2.cut H a c=some u:=fun c u q ne=>by
  rw[j5k fun z=>ne ?_]
  ·exact q
  ·subst z;rw[ea] at q;cases q;rfl
 refine⟨I.ok,I.os,I.bare,⟨I.base.keep,I.base.slot,fun b o e n hx=>no b (I.base.free b o e n hx),I.base.there,fun b xs q=>keep b _ (I.base.tups b xs q) (by simp),fun b o u q=>keep b _ (I.base.frzs b o u q) (by simp),fun b ps q=>?_⟩,
  I.loc,I.cell,no _ I.free,fun x c h=>no _ (I.freeC x c h),fun p hp=>?_,I.hok.cut ea,I.len⟩
 ·obtain⟨m,e⟩:=I.base.tbls b ps q
  exact⟨m,keep b _ e (by simp)⟩
 ·obtain⟨p1,p2,p3,p4,p5⟩:=I.pin p hp
  exact⟨p1,no _ p2,p3,p4,p5⟩
abbrev errH (a:Addr) (C:Value) (dx:Option Addr):HO:=.ext fun h=>∃ o vs,h.get? a=some o∧o.cls=C∧o.dict=dx∧o.data=.fields vs
end
abbrev errN (a C:Addr) (dx:Option Addr):HO:=.ext fun h=>∃ t sl,h.get? a=some ⟨.ref C,dx,.fields #[.ref t,.none,.none,.none,.bool false,.none],sl⟩
structure ErrC (K:PySem.W.Frag) (C:Addr) (bm:List Value):Prop where
 at_:∃ nm q N bs hdct sn sub ab col dd k0 k1 k2 k3 k5 newId,K.lookup C=some (excClassObj nm q C N bs bm hdct sn sub ab col dd k0 k1 k2 k3 k5 newId)
 base:bm.contains (.type "BaseException")=true
def jbi (K:PySem.W.Frag) (n:Nat) (E:XK) (te:TE):TS:=fun _ σ H=>te σ H fun v H'=>∃ a C dx bm,v=.ref a∧H' a=some (errN a C dx)∧n≤a∧ErrC K C bm∧E (.ref C) dx (cut H' a)
theorem je6 {X:Cx}{E:XK}{e:Expr}{te:TE}{pos:Pos} (O:Own X) (hx:∀ ev s,XS X E ev s→X.xe ev s) (hc:X.calm=true) (he:PE X e te):PS X (.Raise (some e) none pos) (jbi X.K X.s₀.heap.objs.size E te):=by
 intro pins s σ H D I h
 rw[arm_exec_Raise]
 simp only[evalOpt,Option.map]
 unfold raiseStmt
 refine wpAny_bind (wpAny_standAt (wpAny_bind (wpAny_bind (wpAny_mono (he pins s σ H _ I h) (fun u s1 z=>?_) fun _ _ z=>z))))
 obtain⟨v,H1,I1,rv,a,C,dx,bm,ev,ea,na,⟨⟨nm,q,N,bs,hdct,sn,sub,ab,col,dd,k0,k1,k2,k3,k5,newId,lk⟩,cb⟩,hE⟩:=z
 subst ev
 obtain rfl:u=Value.ref a:=rv
 have hC:=I1.kIn _ _ lk
 obtain⟨⟨t,sl,ha⟩,_,_⟩:=I1.hok a _ ea
 have cB:(Value.ref C :: bm).contains (.type "BaseException")=true:=by rw[List.contains_cons,cb,Bool.or_true]
 have fin:XS X E (.ref a) s1:=⟨σ,cut H1 a,a,.ref C,dx,.none,rfl,⟨(I1.cut ea).ok,(I1.cut ea).os,(I1.cut ea).bare,(I1.cut ea).base,(I1.cut ea).loc,(I1.cut ea).cell,(I1.cut ea).free,(I1.cut ea).freeC,fun p hp=>(I1.cut ea).pin p (List.mem_append_left _ (by simpa using hp)),(I1.cut ea).hok,(I1.cut ea).len⟩,
  ⟨na,j6j,_,_,ha,rfl,rfl,rfl,by simp,.inl ⟨rfl,rfl⟩⟩,.inl rfl,hE⟩
 obtain⟨hp,g,d,tk,os⟩:=s1
 refine wpAny_bind (wpAny_standAt (wpAny_pure ?_))
 repeat (first | with_reducible refine wpAny_loadPart_at hC ?_ | with_reducible refine wpAny_loadPart_at ha ?_ | (with_reducible refine wpAny_isSubtype_exc hC ?_;rw[cB]) | wp_step)
 exact wpAny_raiseNew_none (I.ok.hd hc) (hx _ _ fin)
structure ErrM (K:PySem.W.Frag) (C f:Addr) (bm bmB:List Value) (B newId initId:String):Prop where
 at_:∃ nm q N bs hdct sn sub ab col dd k0 k1 k2 k3 k5,K.lookup C=some (excClassObj nm q C N bs bm hdct sn sub ab col dd k0 k1 k2 k3 k5 newId)
 facts:ExcBaseFacts B newId initId bmB
 hasB:bm.contains (.type B)=true
 noA:bm.contains (.type "AttributeError")=false
 noN:bm.contains (.type "NameError")=false
 base:bm.contains (.type "BaseException")=true
 init:PySem.W.findIn K (.ref C) "__init__"=some (some (.ref f))
 fn:PySem.W.isFn K (.ref f)=true
 kp:PySem.W.keepIn K (.ref C)=true
section
variable {X:Cx}{CX:CXT}{k:Nat}{f C:Addr}{fd:FuncData}{ps:List Str}{sp:Sp}{dvs:List V}{ds:List Value}{E:XK}{bm bmB:List Value}{B newId initId:String}
theorem Inv.madeErr {pins:List (Addr × Obj)}{σ:St}{H:Hp}{s:Shared}{us:List Value} (I:Inv X pins σ H s) :
  Inv X pins σ (upd H (s.heap.objs.size+1) (errN (s.heap.objs.size+1) C none)) { s with heap:=(s.heap.push (argObj us)).push (errObj C s.heap.objs.size) }:=by
 have kp:∀ b u,s.heap.get? b=some u→((s.heap.push (argObj us)).push (errObj C s.heap.objs.size)).get? b=some u:=fun b u e=>Heap.get?_push_of_some _ (Heap.get?_push_of_some _ e)
 have at1:((s.heap.push (argObj us)).push (errObj C s.heap.objs.size)).get? (s.heap.objs.size+1)=some (errObj C s.heap.objs.size):=by heap_get
 refine I.call (ch:=[]) (g':=s.gens) (d':=s.drawn) (t':=s.toks) (Un.laid kp (Nat.le_succ _) (I.hok.fresh (Nat.le_succ _))) (I.hok.laid kp (Nat.le_succ _) ?_) I.bare fun b z=>absurd z (by simp)
 exact⟨⟨_,_,at1⟩,⟨_,at1⟩,fun h1 h2 ⟨t,sl,e⟩ k=>⟨t,sl,k _ e⟩⟩
theorem jcx {pins:List (Addr × Obj)}{σ:St}{H:Hp}{s:Shared}{Q:VK}{us:List Value}{vs:List V} (M:ErrM X.K C f bm bmB B newId initId) (F:FnOk X.prog X.w X.K X.mg X.base CX k f fd ps sp) (hr:Room (k+1) X.A) (hb:Binds X.K fd ps ds) (hd:Vals dvs ds)
  (hx:j2k CX X E) (I:Inv X pins σ H s) (r:Vals vs us) (hl:vs.length≤1000)
  (h:∀ x,H x=none→X.s₀.heap.objs.size≤x→sp (.ref x :: (vs++dvs)) (upd H x (errN x C none)) (fun v H2=>v=.non∧Q (.ref x) H2) E) :
  wpAny (model X.prog X.w) X.A (call (.ref C) us) (EP X pins σ Q) X.xe s:=by
 have hq:=h (s.heap.objs.size+1) (I.hok.fresh (Nat.le_succ _)) (Nat.le_trans I.sz (Nat.le_succ _))
 have I2:=Inv.madeErr (C:=C) (us:=us) I
 have r2:Vals (V.ref (s.heap.objs.size+1) :: (vs++dvs)) (Value.ref (s.heap.objs.size+1) :: (us++ds)):=.cons rfl (r.append hd)
 have len2:(Value.ref (s.heap.objs.size+1) :: us++ds).length=ps.length:=by
  have e:=r2.length
  rw[F.len _ _ _ _ hq] at e
  exact e.symm
 obtain⟨nm,q,N,bs,hdct,sn,sub,ab,col,dd,k0,k1,k2,k3,k5,lk⟩:=M.at_
 have hus:us.length≤sizeLine:=by rw[← r.length];exact Nat.le_of_lt (jbc hl)
 obtain⟨hh,g,d,t,os⟩:=s
 refine wpAny_call (je5 (f:=f) M.facts M.hasB M.noA M.noN (I.kIn _ _ lk) (PySem.W.looks_findIn I.kIn M.init) (fun self=>PySem.W.bind_fn I.kIn self (beq_iff_eq.mp M.fn)) hus (codeAny_mono (F.run _ X.stack _ _ ⟨Value.ref (hh.objs.size+1) :: us,[]⟩ (Value.ref (hh.objs.size+1) :: (us++ds)) _ _ E (hr.make C us [])
  (I2.env0.make C us []) (hb _ (Value.ref (hh.objs.size+1) :: us) I2.kIn len2) r2 hq) fun rr s' z=>?_))
 cases rr with
 | error e=>exact hx pins σ _ _ e s' I2 z
 | ok fl =>
  cases fl with
  | ret u =>
   obtain⟨v,H',I3,rv,ev,q3⟩:=I2.after z
   subst ev
   exact⟨rv,⟨V.ref (hh.objs.size+1),H',I3,rfl,q3⟩⟩
  | next=>exact False.elim z
  | brk=>exact False.elim z
  | cont=>exact False.elim z
end
structure ErrS (K:PySem.W.Frag) (C:Addr) (f:Str) (bm:List Value):Prop where
 at_:∃ nm q N bs sn sub ab col dd k0 k1 k2 k3 k5 newId,K.lookup C=some (excClassObj nm q C N bs bm true sn sub ab col dd k0 k1 k2 k3 k5 newId)
 passes:∀ x:Addr,refuseLoop (.ref x) "__setattr__" bm=pure ()
 obj:bm.contains (.type "object")=true
 set:PySem.W.findIn K (.ref C) "__setattr__"=some (some (.builtin "object.__setattr__"))
 none:PySem.W.findIn K (.ref C) f=some none
def sErr (K:PySem.W.Frag) (ta tv:TE) (f:Str):TS:=fun D σ H=>tv σ H fun y H1=>ta σ H1 fun x H2=>∃ a C bm,x=.ref a∧H2 a=some (errN a C none)∧ErrS K C f bm ∧
 ∀ dx,H2 dx=none→dx≠a→D.nx σ (upd (upd H2 dx (.xd [(f,y)])) a (errN a C (some dx)))
theorem ps_err {X:Cx}{o value:Expr}{ta tv:TE}{f:Str}{pos pos':Pos} (ha:PE X o ta) (hv:PE X value tv) (hs:swapsWith value (some (.Attribute o f pos')) pos.line X.env=pure false):PS X (.Assign [.Attribute o f pos'] value pos) (sErr X.K ta tv f):=by
 intro pins s σ H D I h
 refine plainObj_wpAny_Assign_Attribute (thn (hv pins s σ H _ I h) fun u s1 ⟨y,H1,I1,ry,q⟩=>thn (ha pins s1 σ H1 _ I1 q) fun ov s2 ⟨x,H2,I2,rx,a,C,bm,ex,ea,c,q2⟩=>?_) hs
 subst ex
 obtain rfl:ov=Value.ref a:=rx
 obtain⟨nm,qn,N,bs,sn,sub,ab,col,dd,k0,k1,k2,k3,k5,newId,lk⟩:=c.at_
 obtain⟨⟨t,sl,ao⟩,_,_⟩:=I2.hok a _ ea
 have kin:=I2.kIn
 have fr:H2 s2.heap.objs.size=none:=I2.hok.fresh (Nat.le_refl _)
 have lt:a < s2.heap.objs.size:=Heap.lt_size ao
 have q3:=q2 _ fr (Nat.ne_of_gt lt)
 obtain⟨hh,g,d,tk,os⟩:=s2
 refine jbh (c.passes a) c.obj (kin _ _ lk) (PySem.W.looks_findIn kin c.set) (PySem.W.looks_findIn kin c.none) ao rfl (fun _ z=>by cases z) rfl fun h' tk' e1 e2 e3=>?_
 have keep:∀ b w,H2 b=some w→w≠errN a C none→upd (upd H2 hh.objs.size (.xd [(f,y)])) a (errN a C (some hh.objs.size)) b=some w:=fun b w e ne=>by
  have h1:b≠a:=fun z=>by subst z;rw[ea] at e;cases e;exact ne rfl
  have h2:b≠hh.objs.size:=fun z=>by subst z;rw[fr] at e;cases e
  rw[j0e h1,j0e h2];exact e
 have un:∀ b,H2 b=none→b≠a:=fun b e z=>by subst z;rw[ea] at e;cases e
 refine⟨σ,_,I2.call (ch:=[]) (g':=g) (d':=d) (t':=tk') ⟨fun b w e n _ _=>e3 b w (un b n) e,fun b w e n _ _=>⟨w.slots,e3 b w (un b n) e⟩,fun b w e n _=>?_,fun b w e _=>?_,fun b xs e=>keep b _ e (by simp),fun b w v e=>keep b _ e (by simp),fun b ps e=>⟨#[],by rw[keep b _ e (by simp)];simp⟩⟩ (fun b w e=>?_) I2.bare fun b z=>absurd z (by simp),q3⟩
 ·rw[j0e (un b n),j0e (Nat.ne_of_lt (Heap.lt_size e))];exact n
 ·by_cases z:b=a
  ·subst z;exact⟨_,e1⟩
  ·exact⟨w,e3 b w z e⟩
 ·by_cases z:b=a
  ·subst z
   rw[j0a] at e
   cases e
   exact⟨⟨t,sl,e1⟩,⟨_,e1⟩,fun h1 h2 ⟨t,sl,e⟩ k=>⟨t,sl,k _ e⟩⟩
  rw[j0e z] at e
  by_cases z2:b=hh.objs.size
  ·subst z2
   rw[j0a] at e
   cases e
   refine⟨_,e2,fun n=>?_⟩
   by_cases hn:n=f
   ·subst hn
    simpa[List.lookup,RelO] using ry
   ·have hb:(n == f)=false:=beq_eq_false_iff_ne.mpr hn
    simp[List.lookup,hb,hn,RelO]
  ·rw[j0e z2] at e
   refine (I2.hok b w e).stay (fun b1 w1 hc e4=>e3 b1 w1 ?_ e4) (fun b1 e4=>keep b1 _ e4 (by simp)) fun b1 xs e4=>keep b1 _ e4 (by simp)
   rcases hc with rfl | hc
   ·exact z
   ·intro zz;subst zz;rw[ea] at hc;cases hc
def tErr (C:Addr) (n:Nat) (sp:Sp) (dvs:List V) (E:XK) (t:TA):TE:=fun σ H Q=>t σ H fun vs H1=>vs.length≤1000∧∀ x,H1 x=none→n≤x →
 sp (.ref x :: (vs++dvs)) (upd H1 x (errN x C none)) (fun v H2=>v=.non∧Q (.ref x) H2) E
section
variable {X:Cx}{CX:CXT}{k:Nat}{f C:Addr}{fd:FuncData}{ps:List Str}{sp:Sp}{dvs:List V}{ds:List Value}{E:XK}{bm bmB:List Value}{B newId initId:String}{x:Str}{p pos:Pos}{e:Expr}{es:List Expr}{t:TA}
theorem je7 (M:ErrM X.K C f bm bmB B newId initId) (F:FnOk X.prog X.w X.K X.mg X.base CX k f fd ps sp) (hr:Room (k+1) X.A) (hg:Gl X x) (hm:X.mg x=some (.ref C)) (hb:Binds X.K fd ps ds) (hd:Vals dvs ds) (hx:j2k CX X E)
  (ha:PA X (e :: es) t) (hdb:(x == ("__debug__":Str))=false:=by decide) (he:starEach (e :: es) X.env=(false,eval e X.env) :: starEach es X.env:=by rfl) (hpl:(backTo pos (starEach es X.env)).any (·.1)=false:=by rfl) :
  PE X (.Call (.Name x p) (e :: es) [] pos) (tErr C X.s₀.heap.objs.size sp dvs E t):=by
 intro pins s σ H Q I h
 refine wpAny_Call_Name_kw (j2h I hg hm ?_ hdb)
 refine PySem.W.callWith_K (h₀:=X.base) I.ok.mod.kin M.kp (thn (ha pos pins s σ H _ I h) fun us s1 ⟨vs,H1,I1,r,l,q⟩=>⟨I1.kIn,?_⟩) he hpl
 exact jcx M F hr hb hd hx I1 r l q
theorem j32 (M:ErrM X.K C f bm bmB B newId initId) (F:FnOk X.prog X.w X.K X.mg X.base CX k f fd ps sp) (hr:Room (k+1) X.A) (hg:Gl X x) (hm:X.mg x=some (.ref C)) (hb:Binds X.K fd ps ds) (hd:Vals dvs ds) (hx:j2k CX X E)
  (hdb:(x == ("__debug__":Str))=false:=by decide):PE X (.Call (.Name x p) [] [] pos) (tErr C X.s₀.heap.objs.size sp dvs E tNil):=by
 intro pins s σ H Q I h
 refine wpAny_Call_Name_kw (j2h I hg hm ?_ hdb)
 obtain⟨l,q⟩:=(show ([]:List V).length≤1000∧_ from h)
 exact PySem.W.callWith_K0 I.kIn M.kp (jcx (us:=[]) (vs:=[]) M F hr hb hd hx I .nil l q)
end
def Ext (H H':Hp):Prop:=∀ b o,H b=some o→H' b=some o
theorem Ext.rfl' {H:Hp}:Ext H H:=fun _ _ h=>h
theorem Ext.tr {H H1 H2:Hp} (a:Ext H H1) (b:Ext H1 H2):Ext H H2:=fun c o h=>b c o (a c o h)
theorem j1e {H:Hp}{p:Addr}{o:HO} (n:H p=none):Ext H (upd H p o):=fun b u h=>by
 rw[j0e (j04 h n)];exact h
theorem Ext.free {H H':Hp} (e:Ext H H') {l:Addr} (h:H' l=none):H l=none:=by
 cases q:H l with
 | none=>rfl
 | some o=>rw[e l o q] at h;cases h
theorem Ext.rd {H H':Hp}{a:Addr}{u:HO} (e:Ext H H') (h:Rd H a u):Rd H' a u:=by
 rcases h with h | ⟨o,h⟩
 ·exact .inl (e _ _ h)
 ·exact .inr ⟨o,e _ _ h⟩
theorem Ext.seqL {K:PySem.W.Frag}{H H':Hp}{a:Addr}{xs:List V} (e:Ext H H') (h:SqL K H a xs):SqL K H' a xs:=h.elim (fun h=>.inl (e.rd h)) .inr
theorem Ext.seqT {K:PySem.W.Frag}{H H':Hp}{a:Addr}{xs:List V} (e:Ext H H') (h:SqT K H a xs):SqT K H' a xs:=h.elim (fun h=>.inl (e.rd h)) .inr
theorem up {H H':Hp}{p:Addr}{o:HO} (e:Ext H H') (h:H p=some o):H' p=some o:=e _ _ h
def But (x:Addr) (H H':Hp):Prop:=∀ b o,b≠x→H b=some o→H' b=some o
theorem But.tr {x:Addr}{H H1 H2:Hp} (a:But x H H1) (b:But x H1 H2):But x H H2:=fun c o n h=>b c o n (a c o n h)
theorem Ext.toBut {x:Addr}{H H1 H2:Hp} (a:Ext H H1) (b:But x H1 H2):But x H H2:=fun c o n h=>b c o n (a c o h)
theorem Ext.but {x:Addr}{H H1 H2:Hp} (a:Ext H H1) (b:But x H1 H2) (n:H x=none):Ext H H2:=fun c o h=>b c o (j04 h n) (a c o h)
theorem jcy {H:Hp}{p:Addr}{o:HO}:But p H (upd H p o):=fun b u n h=>by rw[j0e n];exact h
theorem Ext.asBut {x:Addr}{H H1:Hp} (a:Ext H H1):But x H H1:=fun c o _ h=>a c o h
inductive Kd where | non | bl | int | str | tup | lst | dct
 deriving DecidableEq
def Kd.ty:Kd→String
 | .non=>"NoneType" | .bl=>"bool" | .int=>"int" | .str=>"str" | .tup=>"tuple" | .lst=>"list" | .dct=>"dict"
def HasK (H:Hp):V→Kd→Prop
 | .non,k=>k=.non
 | .bl _,k=>k=.bl
 | .int _,k=>k=.int
 | .str _,k=>k=.str
 | .ref a,k=>(∃ xs,H a=some (.tup xs)∧k=.tup)∨(∃ xs,H a=some (.lst xs)∧k=.lst)∨(∃ kvs,H a=some (.dK kvs)∧k=.dct)
 | _,_=>False
theorem HasK.t {H:Hp}{a:Addr}{xs:List V} (h:H a=some (.tup xs)):HasK H (.ref a) .tup:=.inl ⟨xs,h,rfl⟩
theorem HasK.l {H:Hp}{a:Addr}{xs:List V} (h:H a=some (.lst xs)):HasK H (.ref a) .lst:=.inr (.inl ⟨xs,h,rfl⟩)
theorem HasK.d {H:Hp}{a:Addr}{kvs:List (Key × V)} (h:H a=some (.dK kvs)):HasK H (.ref a) .dct:=.inr (.inr ⟨kvs,h,rfl⟩)
theorem HasK.mono {H H':Hp}{x:V}{k:Kd} (e:Ext H H') (h:HasK H x k):HasK H' x k:=by
 cases x with
 | ref a =>
  rcases h with⟨xs,h,r⟩ | ⟨xs,h,r⟩ | ⟨xs,h,r⟩
  ·exact .inl ⟨xs,e _ _ h,r⟩
  ·exact .inr (.inl ⟨xs,e _ _ h,r⟩)
  ·exact .inr (.inr ⟨xs,e _ _ h,r⟩)
 | _=>exact h
theorem HasK.tyOf {K:PySem.W.Frag}{H:Hp}{x:V}{k:Kd} (h:HasK H x k):TyOf K H x (.type k.ty):=by
 cases x with
 | non=>cases (show k=.non from h);exact .non
 | bl b=>cases (show k=.bl from h);exact .bl b
 | int b=>cases (show k=.int from h);exact .int b
 | str b=>cases (show k=.str from h);exact .str b
 | ref a =>
  rcases h with⟨xs,h,rfl⟩ | ⟨xs,h,rfl⟩ | ⟨xs,h,rfl⟩
  ·exact .tup h
  ·exact .lst h
  ·exact .dK h
 | _=>exact (show False from h).elim
inductive D where
 | non | bl (b:Bool) | int (i:Int) | str (x:Str) | tup (l:List D) | lst (l:List D) | dct
def D.kd:D→Kd
 | .non=>.non | .bl _=>.bl | .int _=>.int | .str _=>.str | .tup _=>.tup | .lst _=>.lst | .dct=>.dct
mutual
def Rep (H:Hp):D→V→Prop
 | .non,v=>v=.non
 | .bl b,v=>v=.bl b
 | .int i,v=>v=.int i
 | .str x,v=>v=.str x
 | .tup l,v=>∃ p xs,v=.ref p∧H p=some (.tup xs)∧RepL H l xs
 | .lst l,v=>∃ p xs,v=.ref p∧H p=some (.lst xs)∧RepL H l xs
 | .dct,v=>∃ p kvs,v=.ref p∧H p=some (.dK kvs)
def RepL (H:Hp):List D→List V→Prop
 | [],xs=>xs=[]
 | d :: r,xs=>∃ x t,xs=x :: t∧Rep H d x∧RepL H r t
end
def jg2:HO→Bool
 | .tup _=>true | .lst _=>true | .dK _=>true | _=>false
def Kp (H H':Hp):Prop:=∀ b o,H b=some o→jg2 o=true→H' b=some o
theorem Ext.kp {H H':Hp} (e:Ext H H'):Kp H H':=fun b o h _=>e b o h
mutual
theorem Rep.keep' {H H':Hp} (e:Kp H H'):∀ (d:D) {v:V},Rep H d v→Rep H' d v
 | .non,_,h=>by unfold Rep at h ⊢;exact h
 | .bl _,_,h=>by unfold Rep at h ⊢;exact h
 | .int _,_,h=>by unfold Rep at h ⊢;exact h
 | .str _,_,h=>by unfold Rep at h ⊢;exact h
 | .tup l,_,h=>by unfold Rep at h ⊢;obtain⟨p,xs,h1,h2,h3⟩:=h;exact⟨p,xs,h1,e _ _ h2 rfl,RepL.keep' e l h3⟩
 | .lst l,_,h=>by unfold Rep at h ⊢;obtain⟨p,xs,h1,h2,h3⟩:=h;exact⟨p,xs,h1,e _ _ h2 rfl,RepL.keep' e l h3⟩
 | .dct,_,h=>by unfold Rep at h ⊢;obtain⟨p,xs,h1,h2⟩:=h;exact⟨p,xs,h1,e _ _ h2 rfl⟩
theorem RepL.keep' {H H':Hp} (e:Kp H H'):∀ (l:List D) {xs:List V},RepL H l xs→RepL H' l xs
 | [],_,h=>by unfold RepL at h ⊢;exact h
 | d :: r,_,h=>by unfold RepL at h ⊢;obtain⟨x,t,h1,h2,h3⟩:=h;exact⟨x,t,h1,Rep.keep' e d h2,RepL.keep' e r h3⟩
end
theorem Rep.keep {H H':Hp}{d:D}{v:V} (h:Rep H d v) (e:Kp H H'):Rep H' d v:=Rep.keep' e d h
theorem RepL.keep {H H':Hp}{d:List D}{v:List V} (h:RepL H d v) (e:Kp H H'):RepL H' d v:=RepL.keep' e d h
theorem Rep.mono {H H':Hp}{d:D}{v:V} (h:Rep H d v) (e:Ext H H'):Rep H' d v:=h.keep e.kp
theorem RepL.mono {H H':Hp}{d:List D}{v:List V} (h:RepL H d v) (e:Ext H H'):RepL H' d v:=h.keep e.kp
theorem RepL.length {H:Hp}:∀ {l:List D}{xs:List V},RepL H l xs→l.length=xs.length
 | [],_,h=>by unfold RepL at h;rw[h];rfl
 | d :: r,_,h=>by unfold RepL at h;obtain⟨x,t,rfl,_,h3⟩:=h;rw[List.length_cons,List.length_cons,RepL.length h3]
theorem RepL.get {H:Hp}:∀ {l:List D}{xs:List V}{i:Nat}{x:V},RepL H l xs→xs[i]?=some x→∃ d,l[i]?=some d∧Rep H d x
 | [],_,i,x,h,e=>by unfold RepL at h;subst h;simp at e
 | d :: r,_,0,x,h,e=>by unfold RepL at h;obtain⟨y,t,rfl,h2,_⟩:=h;simp at e;subst e;exact⟨d,rfl,h2⟩
 | d :: r,_,i+1,x,h,e=>by unfold RepL at h;obtain⟨y,t,rfl,_,h3⟩:=h;obtain⟨z,z1,z2⟩:=RepL.get (i:=i) h3 (by simpa using e);exact⟨z,by simpa using z1,z2⟩
theorem RepL.nil {H:Hp}:RepL H [] []:=by unfold RepL;rfl
theorem RepL.cons {H:Hp}{d:D}{x:V}{l:List D}{xs:List V} (h:Rep H d x) (t:RepL H l xs):RepL H (d :: l) (x :: xs):=by unfold RepL;exact⟨x,xs,rfl,h,t⟩
theorem Rep.intI {H:Hp}{i:Int}:Rep H (.int i) (.int i):=by unfold Rep;rfl
theorem Rep.strI {H:Hp}{b:Str}:Rep H (.str b) (.str b):=by unfold Rep;rfl
theorem Rep.tupI {H:Hp}{p:Addr}{xs:List V}{l:List D} (h:H p=some (.tup xs)) (r:RepL H l xs):Rep H (.tup l) (.ref p):=by unfold Rep;exact⟨p,xs,rfl,h,r⟩
theorem Rep.lstI {H:Hp}{p:Addr}{xs:List V}{l:List D} (h:H p=some (.lst xs)) (r:RepL H l xs):Rep H (.lst l) (.ref p):=by unfold Rep;exact⟨p,xs,rfl,h,r⟩
theorem RepL.ints {H:Hp}:∀ ns:List Int,RepL H (ns.map D.int) (ns.map V.int)
 | []=>.nil
 | _ :: r=>.cons .intI (RepL.ints r)
theorem Rep.kd {H:Hp}{d:D}{v:V} (h:Rep H d v):HasK H v d.kd:=by
 cases d with
 | tup l=>unfold Rep at h;obtain⟨p,xs,rfl,h,_⟩:=h;exact .t h
 | lst l=>unfold Rep at h;obtain⟨p,xs,rfl,h,_⟩:=h;exact .l h
 | dct=>unfold Rep at h;obtain⟨p,xs,rfl,h⟩:=h;exact .d h
 | _=>unfold Rep at h;subst h;exact rfl
mutual
def D.fine:D→Bool
 | .tup l=>D.fineL l
 | .lst l=>D.fineL l
 | .dct=>false
 | _=>true
def D.fineL:List D→Bool
 | []=>true
 | d :: r=>d.fine && D.fineL r
def D.depth:D→Nat
 | .tup l=>D.depthL l+1
 | .lst l=>D.depthL l+1
 | _=>0
def D.depthL:List D→Nat
 | []=>0
 | d :: r=>max d.depth (D.depthL r)
end
theorem j7l:∀ {l:List D}{n i:Nat}{d:D},D.depthL l≤n→l[i]?=some d→d.depth≤n
 | [],_,_,_,_,e=>by simp at e
 | x :: r,n,0,d,h,e=>by simp at e;subst e;unfold D.depthL at h;omega
 | x :: r,n,i+1,d,h,e=>by unfold D.depthL at h;exact j7l (l:=r) (by omega) (by simpa using e)
theorem j4g (ns:List Int):D.depthL (ns.map D.int)=0:=by
 induction ns with
 | nil=>rfl
 | cons n r ih=>show max (D.depth (.int n)) (D.depthL (r.map D.int))=0;rw[ih];rfl
abbrev CXU (P:Program) (w:World):CXT:=CXE P w
theorem j0i {X:Cx}{P:Program}{w:World}:j2k (CXU P w) X E0:=passE0
theorem noneU {P:Program}:∀ (w:World) (H:Hp) (s:Shared) (e:Value) (s':Shared),CXU P w [] H s (fun _ _ _=>False) e s'→False:=fun _ _ _ _ _ h=>by
 obtain⟨_,_,_,_,_,_,_,_,_,_,q⟩:=h
 exact q
theorem FnOk.no {P:Program}{w:World}{K:PySem.W.Frag}{mg:Str→Option Value}{base:Heap}{CX:CXT}{k:Nat}{f:Addr}{fd:FuncData}{ps:List Str}:FnOk P w K mg base CX k f fd ps (fun _ _ _ _=>False) :=
 ⟨fun _ _ _ _ h=>h.elim,fun _ _ _ _ _ _ _ _ _ _ _ _ _ h=>h.elim⟩
section
variable {P:Program}{w:World}{K:PySem.W.Frag}{mg:Str→Option Value}{base:Heap}
theorem Fun.okU {x qual:Str}{st:Stmt}{f:Addr}{fd:FuncData}{N ps:List Str}{k:Nat}{sp:Sp} (F:Fun K x qual st f fd) (S:FnScope N ps (j07 st)) (len:∀ vs H Q E,sp vs H Q E→vs.length=ps.length)
  (hbody:∀ (cdv:Value) (A:Around) (outer:List Env) (s:Shared) (H:Hp) (vs:List V) (Q:VK) (E:XK),Room k (A.deeper (envOfC qual (j07 st) s.heap.objs.size f cdv))→sp vs H Q E →
   ∃ t,PSs (cxOf (CXU P w) P w K mg base N qual (j07 st) f cdv A outer s H E).nox (j1q st) t∧t { nx:=fun _ H'=>Q .non H',rt:=Q } (start N vs) H):FnOk P w K mg base (CXU P w) (k+1) f fd ps sp:=by
 obtain⟨oc,od,kV,doc,pm,an,cdv,ct,osl,rfl,lk,hcd⟩:=F.ex
 refine jio lk hcd S len fun A outer s H vs Q E hr hsp=>?_
 obtain⟨t,h,q⟩:=hbody cdv A outer s H vs Q E hr hsp
 exact⟨t,h.nox,q⟩
theorem Fun.okX {x qual:Str}{st:Stmt}{f:Addr}{fd:FuncData}{N ps:List Str}{k:Nat}{sp:Sp} (F:Fun K x qual st f fd) (S:FnScope N ps (j07 st)) (len:∀ vs H Q E,sp vs H Q E→vs.length=ps.length)
  (hbody:∀ (cdv:Value) (A:Around) (outer:List Env) (s:Shared) (H:Hp) (vs:List V) (Q:VK) (E:XK),Room k (A.deeper (envOfC qual (j07 st) s.heap.objs.size f cdv))→sp vs H Q E →
   ∃ t,PSs ((cxOf (CXU P w) P w K mg base N qual (j07 st) f cdv A outer s H E).wish (XS (cxOf (CXU P w) P w K mg base N qual (j07 st) f cdv A outer s H E) E)) (j1q st) t∧t { nx:=fun _ H'=>Q .non H',rt:=Q } (start N vs) H):FnOk P w K mg base (CXU P w) (k+1) f fd ps sp:=by
 obtain⟨oc,od,kV,doc,pm,an,cdv,ct,osl,rfl,lk,hcd⟩:=F.ex
 refine jio lk hcd S len fun A outer s H vs Q E hr hsp=>?_
 obtain⟨t,h,q⟩:=hbody cdv A outer s H vs Q E hr hsp
 exact⟨t,h.wished leftX,q⟩
end
abbrev ib:Int→Nat:=Builtin.Int.intBits
theorem j8e {ns:List Int} (h:PySem.W.WData.layableAll [.list (ns.map .int)]=true):∀ z∈ns,ib z≤1048576:=fun z hz=>by
 have h1:=PySem.W.layableW_arg h _ (List.mem_singleton.mpr rfl)
 have h2:=PySem.W.layableW_item h1 (.int z) (List.mem_map.mpr ⟨z,hz,rfl⟩)
 have h3:=(PySem.W.layableW_iff.mp h2).2.2
 simpa[PySem.W.WData.weight,ib,Builtin.Int.intBits] using h3
end L2
namespace L2
open PySem PySem.W PySem.Calls PyProof.Rows
theorem j6k {l:OpenLaw}{n:Nat}{q:Program}{loose:List Str}{XP:(Str→Option Value)→Heap→Prop}{YP:World→Heap→Prop}{d:DefRec}
  (hn:l.most=some n) (hdf:d.params.defaults=[])
  (call:∀ (w:World) (s₀ s₁:Shared) (mg mb:Str→Option Value) (fa:Addr) (o:Obj) (pm cd doc:Value) (a:Addr) (vs:List Value) (ns:List Int),
   Ground q loose [] XP w s₀ mg mb s₁.heap→YP w s₁.heap →
   s₁.heap.get? fa=some o→o.data=.func (docDef d.name d.params d.body d.scope pm cd doc)→s₁.heap.CodeRec cd d.name→mg d.name=some (.ref fa) →
   s₁.heap.get? a=some { cls:=.type "list",data:=.seq vs.toArray }→IntsAre vs ns→ns.length≤n→(∀ z∈ns,ib z≤1048576)→s₁.gens=#[] →
   codeAny (model l.prog w) callerA (.call (.ref fa) ⟨[.ref a],[]⟩) (fun r s'=>r=.ok (.ret (.bool true))∧OldK s₁.heap s'.heap∧s'.os=s₁.os∧AllBare s'.gens) s₁) :
  WalkO q loose XP YP l.row.toRowW d [] (fun f vs=>PySem.call f vs):=by
 intro w s₀ s₁ mg mb G Y fa o pm cd doc dV kV ho hd hcd hD hmg hg args vals as hpre hlay hrd hwl hlo
 obtain rfl:dV=.none:=Dflts.none hD hdf
 obtain rfl:kV=.none:=Dflts.noKw hD
 obtain⟨a,vs,ns,rfl,rfl,hobj,hints,hlen⟩:=Att.script_of hn hpre hwl
 refine enter_call (codeAny_mono (call w s₀ s₁ mg mb fa o pm cd doc a vs ns G Y ho (fd_plain hd) hcd hmg hobj hints hlen (j8e hlay) hg) fun r s' hq=>?_)
 obtain⟨rfl,h2,h3,h4⟩:=hq
 exact⟨.inl ⟨.bool true,.bool true,[],rfl,fun _=>rfl,.bool true,Att.post_true l _,fun _=>⟨List.Pairwise.nil,fun _ hm=>(nomatch hm)⟩⟩,h2,h3,h4⟩
theorem walk_ofB {l:PySem.W.OpenLaw}{n k:Nat}{q:Program}{loose:List Str}{XP:(Str→Option Value)→Heap→Prop}{YP:World→Heap→Prop}{d:DefRec}{K:Params→PySem.W.Frag}{CX:World→CXT}{sp:World→Sp}{x:Str}
  (hn:l.most=some n) (hn2:n≤sizeLine) (hdf:d.params.defaults=[]) (hr:Room k callerA)
  (hY:∀ (w:World) (h:Heap),YP w h→(K w.params).In h)
  (F:∀ (w:World) (mg:Str→Option Value) (fa:Addr) (h:Heap),(K w.params).In h→h.Ns mainGlobals mg→mg d.name=some (.ref fa) →
   ∃ fd:FuncData,(∀ (s:Shared) (u:Value),BindsTo s fd ⟨[u],[]⟩ [(x,u)]) ∧
    ∀ base:Heap,(K w.params).In base→base.Ns mainGlobals mg→FnOk l.prog w (K w.params) mg base (CX w) k fa fd [x] (sp w))
  (hsp:∀ (w:World) (H:Hp) (a:Addr) (ns:List Int),ns.length≤n→(∀ z∈ns,ib z≤1048576)→Only H→SqL (K w.params) H a (ns.map V.int)→sp w [.ref a] H (fun v _=>v=.bl true) fun _ _ _=>False)
  (hCX:∀ (w:World) (H:Hp) (s:Shared) (e:Value) (s':Shared),CX w [] H s (fun _ _ _=>False) e s'→False) :
  PySem.W.WalkO q loose XP YP l.row.toRowW d [] (fun f vs=>PySem.call f vs):=by
 refine j6k hn hdf fun w s₀ s₁ mg mb fa o pm cd doc a vs ns G Y ho hd hcd hmg hobj hints hlen hbit hg=>?_
 have KX:=hY w _ Y
 obtain⟨fd,hb,hF⟩:=F w mg fa _ KX G.T.g hmg
 exact j9d KX G.T.g G.T.b G.T.builtins G.T.nolimit G.T.bmain hg hobj hints (Nat.le_trans hlen hn2) hr hF hb (fun H hO hS=>hsp w H a ns hlen hbit hO hS) fun H e s'=>hCX w H s₁ e s'
section
variable {X:Cx}
def CMulB (i j:Int):Prop:=(-18446744073709551616 < i∧i < 18446744073709551616)∨(-18446744073709551616 < j∧j < 18446744073709551616)∨IntMulOk i j
theorem CMulB.ok {i j:Int} (h:CMulB i j):IntMulOk i j:=by
 rcases h with⟨h1,h2⟩ | ⟨h1,h2⟩ | h
 ·exact .of_left (intBits_le_64 (by omega) (by omega))
 ·exact .of_right (intBits_le_64 (by omega) (by omega))
 ·exact h
theorem jg3:OpR X (binaryOp .Mult) (rI CMulB fun i j=>.int (i * j)):=opI fun _ _ _ _ _ _ _ hc q=>mul_int q hc.ok
def CDivB (i j:Int):Prop:=0 < j∧j < 1000000000000000000000000000000000000000000000000000000000000
theorem CDivB.no {i j:Int} (h:CDivB i j):Builtin.divisionGoesByPylong i j=false:=by
 refine PyProof.noPylong_of_log2 ?_
 have h1:=h.1
 have h2:=h.2
 have h0:j.natAbs≠0:=by omega
 refine (Nat.log2_lt h0).mpr ?_
 have e:(1000000000000000000000000000000000000000000000000000000000000:Nat) < 2 ^ 9000:=by decide +kernel
 omega
theorem j0x:OpR X (binaryOp .FloorDiv) (rI CDivB fun i j=>.int (i / j)):=opI fun i j _ _ _ _ _ hc q=>by
 have h1:=hc.1
 exact floordiv_int (by omega) (by rw[Int.fdiv_eq_ediv_of_nonneg i (by omega)];exact q) (.inl hc.no)
def jfi (K:PySem.W.Frag):List V→Hp→VK→Prop:=fun xs H Q=>∃ x t b,((∃ n,xs=[x,.ty n]∧PySem.W.kitOne K t (.type n)=some b)∨∃ C,xs=[x,.ref C]∧PySem.W.kitOne K t (.ref C)=some b)∧TyOf K H x t∧Q (.bl b) H
theorem j59:CallR X (.builtin "isinstance") (jfi X.K):=by
 intro pins s σ H xs us Q I r h
 obtain⟨x,t,b,hx,ty,q⟩:=h
 rcases hx with⟨n,rfl,e⟩ | ⟨n,rfl,e⟩
 ·obtain⟨u,w',rfl,ru,rw'⟩:=jfh r
  obtain rfl:w'=Value.type n:=rw'
  exact j7e I ru ty e fun tk=>⟨.bl b,H,I.tok _,rfl,q⟩
 ·obtain⟨u,w',rfl,ru,rw'⟩:=jfh r
  obtain rfl:w'=Value.ref n:=rw'
  exact j7e I ru ty e fun tk=>⟨.bl b,H,I.tok _,rfl,q⟩
theorem jg4 {K:PySem.W.Frag} (k:Kd):PySem.W.kitOne K (.type k.ty) (.type "int")=some (k == .int || k == .bl):=by cases k <;> rfl
theorem je8 {K:PySem.W.Frag} (k:Kd):PySem.W.kitOne K (.type k.ty) (.type "bool")=some (k == .bl):=by cases k <;> rfl
theorem jg5 {K:PySem.W.Frag} (k:Kd):PySem.W.kitOne K (.type k.ty) (.type "str")=some (k == .str):=by cases k <;> rfl
theorem jbj {K:PySem.W.Frag} (k:Kd):PySem.W.kitOne K (.type k.ty) (.type "tuple")=some (k == .tup):=by cases k <;> rfl
theorem je9 {K:PySem.W.Frag} (k:Kd):PySem.W.kitOne K (.type k.ty) (.type "list")=some (k == .lst):=by cases k <;> rfl
def rMax2:List V→Hp→VK→Prop:=fun xs H Q=>∃ i j,xs=[.int i,.int j]∧Q (.int (max i j)) H
theorem cMax2 (hc:X.calm=true):CallR X (.builtin "max") rMax2:=by
 intro pins s σ H xs us Q I r h
 obtain⟨i,j,rfl,q⟩:=h
 refine jb8 hc pins s σ H _ us Q I r ⟨i,j,rfl,?_⟩
 have e:(if j > i then j else i)=max i j:=by split <;> omega
 rw[e];exact q
def rAbs:List V→Hp→VK→Prop:=fun xs H Q=>∃ i:Int,xs=[.int i]∧Q (.int (i.natAbs:Int)) H
theorem cAbs:CallR X (.builtin "abs") rAbs:=by
 intro pins s σ H xs us Q I r h
 obtain⟨i,rfl,q⟩:=h
 refine jdu pins s σ H _ us Q I r ⟨i,rfl,?_⟩
 have e:(if i < 0 then -i else i)=(i.natAbs:Int):=by split <;> omega
 rw[e];exact q
def rLen (K:PySem.W.Frag):List V→Hp→VK→Prop:=fun xs H Q=>∃ x n,xs=[x]∧LenV K x H n∧Q (.int n) H
theorem cLen:CallR X (.builtin "len") (rLen X.K):=jdv
def rList (K:PySem.W.Frag):List V→Hp→VK→Prop:=fun xs H Q=>∃ p ys,xs=[.ref p]∧(SqL K H p ys∨SqT K H p ys)∧∀ l,H l=none→Q (.ref l) (upd H l (.lst ys))
theorem jea:CallR X (.type "list") (rList X.K):=j6i
def jg6 (K:PySem.W.Frag):List V→Hp→VK→Prop:=fun xs H Q=>∃ p ys,xs=[.ref p]∧((SqL K H p ys∧∀ l,H l=none→Q (.ref l) (upd H l (.tup ys)))∨(SqT K H p ys∧Q (.ref p) H))
theorem j9g:CallR X (.type "tuple") (jg6 X.K):=j5i
def rInU (K:PySem.W.Frag) (neg:Bool):R2:=rIn K neg
theorem oIn:OpR X (compareOp .In) (rInU X.K false):=jbb
theorem jg7:OpR X (compareOp .NotIn) (rInU X.K true):=j6g
def rIsNo:R2:=fun x y H Q=>y=.non∧Q (.bl (decide (x=.non))) H
theorem oIsN:OpR X (compareOp .Is) rIsNo:=op_isN
theorem oIx:IxR X (rIx X.K):=ix_seq
def rSlU (K:PySem.W.Frag):V→Option Int→Option Int→Hp→VK→Prop:=fun x lo hi H Q=>rSlT K x lo hi H Q∨rSlL K x lo hi H Q
theorem oSl:SlR X (rSlU X.K):=sl_tup.or jii
def tTru (K:PySem.W.Frag) (ta:TE):TT:=fun σ H Q=>ta σ H fun x H'=>∃ k,TruV K x H' k∧Q k H'
theorem ptT {a:Expr}{ta:TE} (ha:PE X a ta) (he:∀ whole,isTrue a X.env whole=(do let v ← whole;standAt a.pos;holding [v] (truthy v))):PT X a (tTru X.K ta):=jdt ha he
structure CMeth (K:PySem.W.Frag) (C:Addr) (m:Str) (f:Addr):Prop where
 ga:PySem.W.specialIn K (.ref C) "__getattribute__"=some (some (.builtin "type.__getattribute__"))
 rd:PySem.W.readsIn K C (.type "type")=true
 at_:PySem.W.findCls K (.ref C) (.type "type") m=some (.val (.ref f))
 kp:PySem.W.keepIn K (.ref f)=true
def jg8 (C:Addr) (sp:Sp) (dvs:List V) (E:XK) (ta:TE) (t:TA):TE:=fun σ H Q=>ta σ H fun x H1=>x=.ref C∧t σ H1 fun vs H2=>sp (vs++dvs) H2 Q E
theorem j2t {CX:CXT}{k:Nat}{f C:Addr}{fd:FuncData}{ps:List Str}{sp:Sp}{dvs:List V}{ds:List Value}{E:XK}{m:Str}{pos apos:Pos}{e o:Expr}{es:List Expr}{ta:TE}{t:TA}{pl:Sem Bool}
  (he:PE X o ta) (hm:CMeth X.K C m f) (F:FnOk X.prog X.w X.K X.mg X.base CX k f fd ps sp) (hr:Room k X.A) (hb:Binds X.K fd ps ds) (hd:Vals dvs ds) (hx:j2k CX X E) (ha:PA X (e :: es) t)
  (hst:starEach (e :: es) X.env=(false,eval e X.env) :: starEach es X.env:=by rfl) (hpl:(backTo pos (starEach es X.env)).any (·.1)=false:=by rfl)
  (ht:eval (.Call (.Attribute o m apos) (e :: es) [] pos) X.env=(do
   let ov ← eval o X.env
   standAt apos.atName
   let (f,first) ← holding [ov] (getMethod ov m pl)
   callWith pos f first (backTo pos (starEach (e :: es) X.env)) (backToKw pos (keywordEach [] X.env))):=by rfl) :
  PE X (.Call (.Attribute o m apos) (e :: es) [] pos) (jg8 C sp dvs E ta t):=by
 intro pins s σ H Q I h
 refine PySem.W.methodCall_KW (pl:=pl) (thn (he pins s σ H _ I h) fun u s1 ⟨x,H1,I1,rx,ex,q⟩=>?_) ht
 subst ex
 obtain rfl:u=Value.ref C:=rx
 refine PySem.W.method_cls I1.kIn hm.ga (PySem.W.cls_value I1.kIn hm.rd hm.at_ (j7c (v:=.ref f) rfl) ?_)
 refine PySem.W.callWith_K (first:=[]) (h₀:=X.base) I.ok.mod.kin hm.kp (thn (ha pos pins _ σ H1 _ (I1.tok _) q) fun us s2 ⟨vs,H2,I2,r,q2⟩=>⟨I2.kIn,?_⟩) hst hpl
 exact j97 (us:=us) (vs:=vs) F hr hb hd hx I2 r q2
end
section
variable {X:Cx}{pins:List (Addr × Obj)}{σ:St}{H:Hp}{s:Shared}{h':Heap}
theorem Inv.turnLaid {t':Nat}{ch:List Addr}{a:Addr}{o:HO} (I:Inv X pins σ H s) (k:∀ b u,b∉ch→s.heap.get? b=some u→h'.get? b=some u) (hf:∀ b∈ch,FpOk X pins H b)
  (hp:s.heap.objs.size≤a) (new:ObjOk X.prog X.w (upd H a o) h' a o):Inv X pins σ (upd H a o) { s with heap:=h',toks:=t' }:=by
 have hn:H a=none:=I.hok.fresh hp
 have nit:∀ b u,H b=some u→b∉ch:=fun b u e z=>by rw[(hf b z).1] at e;cases e
 have old:∀ b u,H b=some u→upd H a o b=some u:=fun b u e=>by rw[j0e (j04 e hn)];exact e
 refine I.step (g':=s.gens) (d':=s.drawn) (ch:=ch) (fun b hb=>?_) (fun b u _ _ hc e _=>k b u hc e) (fun b u _ _ hc e _=>⟨u.slots,k b u hc e⟩) (fun b u _ e n=>?_)
  (fun b u hc e=>⟨u,k b u hc e⟩) (fun b xs e=>old _ _ e) (fun b _ _ e=>old _ _ e) (fun b ps e=>⟨#[],by rw[old _ _ e];simp⟩) (fun m hm=>?_) (fun b u e=>?_) I.bare
 ·obtain⟨_,f1,_,f3,f4,f5⟩:=hf b hb
  exact⟨f3,f1,f4,f5⟩
 ·rw[j0e (fun z=>by subst z;exact absurd (Heap.lt_size e) (Nat.not_lt.mpr hp))];exact n
 ·obtain⟨ol,es,ep,ho,r⟩:=hm
  exact⟨ol,es,ep,k _ ol (fun z=>(hf _ z).2.1 rfl) ho,r⟩
 ·by_cases hb:b=a
  ·subst hb;rw[j0a] at e;cases e;exact new
  ·rw[j0e hb] at e
   refine (I.hok b u e).stay (fun c v hc q=>k c v ?_ q) (fun c q=>old _ _ q) fun c xs q=>old _ _ q
   rcases hc with z | z
   ·rw[z];exact nit b u e
   ·exact nit c _ z
theorem Inv.turns {t':Nat}{ch:List Addr} (I:Inv X pins σ H s) (k:∀ b u,b∉ch→s.heap.get? b=some u→h'.get? b=some u) (hf:∀ b∈ch,FpOk X pins H b):Inv X pins σ H { s with heap:=h',toks:=t' }:=by
 have nit:∀ b u,H b=some u→b∉ch:=fun b u e z=>by rw[(hf b z).1] at e;cases e
 refine I.step (g':=s.gens) (d':=s.drawn) (ch:=ch) (fun b hb=>?_) (fun b u _ _ hc e _=>k b u hc e) (fun b u _ _ hc e _=>⟨u.slots,k b u hc e⟩) (fun b u _ e n=>n)
  (fun b u hc e=>⟨u,k b u hc e⟩) (fun b xs e=>e) (fun b _ _ e=>e) (fun b ps e=>⟨#[],by rw[e];simp⟩) (fun m hm=>?_) (fun b u e=>?_) I.bare
 ·obtain⟨_,f1,_,f3,f4,f5⟩:=hf b hb
  exact⟨f3,f1,f4,f5⟩
 ·obtain⟨ol,es,ep,ho,r⟩:=hm
  exact⟨ol,es,ep,k _ ol (fun z=>(hf _ z).2.1 rfl) ho,r⟩
 ·refine (I.hok b u e).stay (fun c v hc q=>k c v ?_ q) (fun c q=>q) fun c xs q=>q
  rcases hc with z | z
  ·rw[z];exact nit b u e
  ·exact nit c _ z
end
section
variable {K:PySem.W.Frag}{σ:St}{H:Hp}{Q:VK}{D:Ends}
theorem r_var {i:Nat}{v:V} (h:σ[i]?=some (some v)) (q:Q v H):tVar i σ H Q:=⟨v,h,q⟩
theorem r_c {v:V} (q:Q v H):tC v σ H Q:=q
theorem r_op {r:R2}{ta tb:TE} (q:ta σ H fun x H1=>tb σ H1 fun y H2=>r x y H2 Q):tOp r ta tb σ H Q:=q
theorem r_seq {t u:TS} (q:t { D with nx:=u D } σ H):tSeq t u D σ H:=q
theorem r_asg {te:TE}{g:TG} (q:te σ H fun x H1=>g x σ H1 D.nx):tAsg te g D σ H:=q
theorem jg9 {i:Nat}{v:V}{R:St→Hp→Prop} (q:R (σ.set i (some v)) H):j7a i v σ H R:=q
theorem r_if {c:TT}{t u:TS} (q:c σ H fun b H1=>if b=true then t D σ H1 else u D σ H1):tIfS c t u D σ H:=q
theorem r_test {t:TE}{R:Bool→Hp→Prop} (q:t σ H fun x H'=>∃ k,x=.bl k∧R k H'):jj2 t σ H R:=q
theorem r_bl {b:Bool}{R:Bool→Prop} (q:R b):∃ k,V.bl b=.bl k∧R k:=⟨b,rfl,q⟩
theorem r_I0 {g:Int→Int→V}{i j:Int} (q:Q (g i j) H):rI0 g (.int i) (.int j) H Q:=⟨i,j,rfl,rfl,q⟩
theorem r_I {C:Int→Int→Prop}{g:Int→Int→V}{i j:Int} (c:C i j) (q:Q (g i j) H):rI C g (.int i) (.int j) H Q:=⟨i,j,rfl,rfl,c,q⟩
theorem jga {i:Int}{j n:Nat}{v:Int} (hi:i.natAbs < 18446744073709551616) (hj:j≤1000) (e:i ^ j=v) (q:Q (.int v) H):rI CPow (fun i j=>.int (i ^ j.toNat)) (.int i) (.int (j:Int)) H Q :=
 ⟨i,j,rfl,rfl,⟨by omega,by omega,Nat.lt_of_lt_of_le hi (by decide)⟩,by show Q (.int (i ^ (j:Int).toNat)) H;rw[Int.toNat_natCast,e];exact q⟩
theorem jgb (q:Q (.int 1000000000000000000) H):rI CPow (fun i j=>.int (i ^ j.toNat)) (.int 10) (.int 18) H Q:=jga (n:=0) (j:=18) (by decide) (by decide) (by decide) q
theorem r_powM (q:Q (.int 948273388530662767682822077) H):rI CPow (fun i j=>.int (i ^ j.toNat)) (.int 982451653) (.int 3) H Q:=jga (n:=0) (j:=3) (by decide) (by decide) (by decide) q
theorem r_eqI {i j:Int} (q:Q (.bl (decide (i=j))) H):rEq (.int i) (.int j) H Q:=⟨rfl,by
 rw[show decide (V.int i=V.int j)=decide (i=j) from decide_eq_decide.mpr ⟨fun z=>by cases z;rfl,fun z=>by rw[z]⟩];exact q⟩
theorem r_neI {i j:Int} (q:Q (.bl (!decide (i=j))) H):rNe (.int i) (.int j) H Q:=⟨rfl,by
 rw[show decide (V.int i=V.int j)=decide (i=j) from decide_eq_decide.mpr ⟨fun z=>by cases z;rfl,fun z=>by rw[z]⟩];exact q⟩
theorem r_eqS {i j:Str} (q:Q (.bl (decide (i=j))) H):rEq (.str i) (.str j) H Q:=⟨rfl,by
 rw[show decide (V.str i=V.str j)=decide (i=j) from decide_eq_decide.mpr ⟨fun z=>by cases z;rfl,fun z=>by rw[z]⟩];exact q⟩
theorem r_ret {te:TE} (q:te σ H D.rt):tRet te D σ H:=q
theorem r_next (q:D.nx σ H):tNext D σ H:=q
theorem r_drop {te:TE} (q:te σ H fun _ H1=>D.nx σ H1):jiy te D σ H:=q
theorem r_not {t:TT}{R:Bool→Hp→Prop} (q:t σ H fun c H1=>R (!c) H1):tNot t σ H R:=q
theorem jgc {te:TE}{R:Bool→Hp→Prop} (q:te σ H fun x H'=>∃ k,TruV K x H' k∧R k H'):tTru K te σ H R:=q
theorem r_blT {b:Bool}{R:Bool→Prop} (q:R b):∃ k,TruV K (.bl b) H k∧R k:=⟨b,rfl,q⟩
theorem r_and {t u:TT}{R:Bool→Hp→Prop} (q:t σ H fun c H1=>if c=true then u σ H1 R else R false H1):tAnd t u σ H R:=q
theorem r_or {t u:TT}{R:Bool→Hp→Prop} (q:t σ H fun c H1=>if c=true then R true H1 else u σ H1 R):tOr t u σ H R:=q
theorem r_andV {ta tb:TE} (q:ta σ H fun x H1=>∃ c,x=.bl c∧if c=true then tb σ H1 Q else Q (.bl false) H1):tAndV ta tb σ H Q:=q
theorem r_orV {ta tb:TE} (q:ta σ H fun x H1=>∃ c,x=.bl c∧if c=true then Q (.bl true) H1 else tb σ H1 Q):tOrV ta tb σ H Q:=q
theorem r_notV {ta:TE} (q:ta σ H fun x H1=>∃ c,x=.bl c∧Q (.bl (!c)) H1):tNotV ta σ H Q:=q
theorem r_ifE {t:TT}{ta tb:TE} (q:t σ H fun c H1=>if c=true then ta σ H1 Q else tb σ H1 Q):tIf t ta tb σ H Q:=q
theorem jgd {r r':R2}{ta tb tc:TE} (q:ta σ H fun x H1=>tb σ H1 fun y H2=>r x y H2 fun z H3=>∃ k,z=.bl k∧if k=true then tc σ H3 fun w H4=>r' y w H4 Q else Q (.bl false) H3):jds r r' ta tb tc σ H Q:=q
theorem r_un {r:V→Hp→VK→Prop}{ta:TE} (q:ta σ H fun x H1=>r x H1 Q):tUn r ta σ H Q:=q
theorem r_rU {g:Int→V}{i:Int} (q:Q (g i) H):rU g (.int i) H Q:=⟨i,rfl,q⟩
theorem r_call {sp:Sp}{dvs:List V}{E:XK}{t:TA} (q:t σ H fun vs H1=>sp (vs++dvs) H1 Q E):jin sp dvs E t σ H Q:=q
theorem r_cb {r:List V→Hp→VK→Prop}{t:TA} (q:t σ H fun vs H1=>r vs H1 Q):tCB r t σ H Q:=q
theorem r_cons {ta:TE}{tr:TA}{R:List V→Hp→Prop} (q:ta σ H fun x H1=>tr σ H1 fun xs H2=>R (x :: xs) H2):tCons ta tr σ H R:=q
theorem r_nil {R:List V→Hp→Prop} (q:R [] H):tNil σ H R:=q
theorem r_meth {C:Addr}{m:Str}{sp:Sp}{dvs:List V}{E:XK}{ta:TE}{t:TA} (q:ta σ H fun x H1=>∃ a dx fs,x=.ref a∧H1 a=some (.ins C dx fs)∧fs.lookup m=none∧t σ H1 fun vs H2=>sp (x :: (vs++dvs)) H2 Q E):jj4 C m sp dvs E ta t σ H Q:=q
theorem r_self {C:Addr}{m:Str}{sp:Sp}{dvs:List V}{E:XK}{t:TA}{a dx:Addr}{fs:List (Str × V)} (h:H a=some (.ins C dx fs)) (l:fs.lookup m=none) (q:t σ H fun vs H2=>sp (.ref a :: (vs++dvs)) H2 Q E) :
  ∃ b dx fs,V.ref a=.ref b∧H b=some (.ins C dx fs)∧fs.lookup m=none∧t σ H fun vs H2=>sp (.ref a :: (vs++dvs)) H2 Q E:=⟨a,dx,fs,rfl,h,l,q⟩
theorem jge {C:Addr}{sp:Sp}{dvs:List V}{E:XK}{ta:TE}{t:TA} (q:ta σ H fun x H1=>x=.ref C∧t σ H1 fun vs H2=>sp (vs++dvs) H2 Q E):jg8 C sp dvs E ta t σ H Q:=q
theorem jgf {C:Addr}{R:Prop} (q:R):V.ref C=.ref C∧R:=⟨rfl,q⟩
theorem r_make {C:Addr}{sp:Sp}{dvs:List V}{E:XK}{t:TA} (q:t σ H fun vs H1=>∀ x dx,H1 x=none→H1 dx=none→dx≠x →
 sp (.ref x :: (vs++dvs)) (upd (upd H1 dx (.own x)) x (.ins C dx [])) (fun v H2=>v=.non∧Q (.ref x) H2) E):tMake C sp dvs E t σ H Q:=q
def rFld (K:PySem.W.Frag) (f:Str):V→Hp→VK→Prop:=fun x H Q=>∃ a C dx fs v,x=.ref a∧H a=some (.ins C dx fs)∧Cls K C∧NoAttr K C f∧fs.lookup f=some v∧Q v H
theorem r_fldK {ta:TE}{f:Str} (q:ta σ H fun x H1=>rFld K f x H1 Q):tFld K ta f σ H Q:=q
theorem r_fat {f:Str}{a C dx:Addr}{fs:List (Str × V)}{v:V} (h:H a=some (.ins C dx fs)) (c:Cls K C) (n:NoAttr K C f) (l:fs.lookup f=some v) (q:Q v H):rFld K f (.ref a) H Q:=⟨a,C,dx,fs,v,rfl,h,c,n,l,q⟩
def rSat (K:PySem.W.Frag) (f:Str) (y:V):V→Hp→(Hp→Prop)→Prop:=fun x H Q=>∃ a C dx fs,x=.ref a∧H a=some (.ins C dx fs)∧Cls K C∧NoAttr K C f∧fs.length < 1000∧Q (upd H a (.ins C dx (putF f y fs)))
theorem r_sfld {ta tv:TE}{f:Str} (q:tv σ H fun y H1=>ta σ H1 fun x H2=>rSat K f y x H2 fun H3=>D.nx σ H3):sFld K ta tv f D σ H:=q
theorem j2r {f:Str}{y:V}{a C dx:Addr}{fs:List (Str × V)}{R:Hp→Prop} (h:H a=some (.ins C dx fs)) (c:Cls K C) (n:NoAttr K C f) (l:fs.length < 1000) (q:∀ H',H' a=some (.ins C dx (putF f y fs))→But a H H'→R H'):rSat K f y (.ref a) H R :=
 ⟨a,C,dx,fs,rfl,h,c,n,l,q _ j0a jcy⟩
theorem j1c {n:Nat} (h:Nat.ble (n+1) 1000=true):n < 1000:=Nat.le_of_ble_eq_true h
def rNewT (xs:List V) (H:Hp) (Q:VK):Prop:=xs.length≤sizeLine∧∀ p,H p=none→Q (.ref p) (upd H p (.tup xs))
def rNewL (xs:List V) (H:Hp) (Q:VK):Prop:=xs.length≤sizeLine∧∀ p,H p=none→Q (.ref p) (upd H p (.lst xs))
theorem r_tup {t:TA} (q:t σ H fun xs H1=>rNewT xs H1 Q):tTup t σ H Q:=q
theorem r_lst {t:TA} (q:t σ H fun xs H1=>rNewL xs H1 Q):tLst t σ H Q:=q
theorem r_newT {xs:List V} (c:Nat.ble xs.length 1000=true) (q:∀ p H',H p=none→H' p=some (.tup xs)→Ext H H'→Q (.ref p) H'):rNewT xs H Q :=
 ⟨Nat.le_trans (Nat.le_of_ble_eq_true c) (by rw[sizeLine_eq];decide),fun p n=>q p _ n j0a (j1e n)⟩
theorem r_newL {xs:List V} (c:Nat.ble xs.length 1000=true) (q:∀ p H',H p=none→H' p=some (.lst xs)→Ext H H'→Q (.ref p) H'):rNewL xs H Q :=
 ⟨Nat.le_trans (Nat.le_of_ble_eq_true c) (by rw[sizeLine_eq];decide),fun p n=>q p _ n j0a (j1e n)⟩
theorem r_dnew (q:∀ p H',H p=none→H' p=some (.dK [])→Ext H H'→Q (.ref p) H'):jg0 σ H Q:=fun p n=>q p _ n j0a (j1e n)
theorem r_for {wi:TI}{g:TG}{tb:TS} (q:wi σ H fun J H1=>∃ W:Nat→Nat→St→Hp→Prop,(∃ m,W 0 m σ H1)∧∀ i m σ H,W i m σ H →
 (J.stop i H∧D.nx σ H)∨(J.go i H∧∃ N:St→Hp→Prop,(∀ σ' H',N σ' H'→∃ m',m' < m∧W (i+1) m' σ' H')∧∀ x H',J.yld i H x H'→g x σ H' fun σ2 H2=>tb { D with nx:=N,ct:=N,bk:=D.nx } σ2 H2)):tFor wi g tb D σ H:=q
theorem r_rng1 {ta:TA}{R:It→Hp→Prop} (q:ta σ H fun vs H1=>∃ j:Int,vs=[.int j]∧-(2 ^ 62)≤j∧j < 2 ^ 62∧R (Itr 0 j.toNat) H1):iRng1 ta σ H R:=q
theorem jgg {tl:TE}{R:It→Hp→Prop} (q:tl σ H fun x H1=>∃ a,x=.ref a∧(∃ xs,SqL K H1 a xs)∧R (Itl K a) H1):iList K tl σ H R:=q
theorem r_itup {tl:TE}{R:It→Hp→Prop} (q:tl σ H fun x H1=>∃ a,x=.ref a∧(∃ xs,SqT K H1 a xs)∧R (Itt K a) H1):iTup K tl σ H R:=q
theorem r_bm {T:String}{r:V→List V→Hp→VK→Prop}{to:TE}{t:TA} (q:to σ H fun x H1=>tyV K T x H1∧t σ H1 fun vs H2=>r x vs H2 Q):tBM K T r to t σ H Q:=q
theorem r_tyl {p:Addr}{xs:List V}{R:Prop} (h:H p=some (.lst xs)) (q:R):tyV K "list" (.ref p) H∧R:=⟨.inl ⟨rfl,xs,SqL.of h⟩,q⟩
theorem j6l {p:Addr}{xs:List V}{y:V} (h:H p=some (.lst xs)) (l:xs.length < 1000000) (q:∀ H',H' p=some (.lst (xs++[y]))→But p H H'→Q .non H'):jcw (.ref p) [y] H Q :=
 ⟨p,xs,y,rfl,rfl,h,Nat.lt_of_lt_of_le l (by rw[sizeLine_eq];decide),q _ j0a jcy⟩
theorem r_gnil {R:St→Hp→Prop} (q:R σ H):gNil [] σ H R:=⟨rfl,q⟩
theorem jgh {t:TG}{u:TGs}{v:V}{r:List V}{R:St→Hp→Prop} (q:t v σ H fun σ' H'=>u r σ' H' R):jik t u (v :: r) σ H R:=⟨v,r,rfl,q⟩
theorem jgi {n:Nat}{t:TGs}{a:Addr}{xs:List V}{R:St→Hp→Prop} (h:H a=some (.tup xs)) (l:xs.length=n) (q:t xs σ H R):gTup K n t (.ref a) σ H R:=⟨a,xs,rfl,SqT.of h,l,q⟩
theorem r_max {i j:Int} (q:Q (.int (max i j)) H):rMax2 [.int i,.int j] H Q:=⟨i,j,rfl,q⟩
theorem r_abs {i:Int} (q:Q (.int (i.natAbs:Int)) H):rAbs [.int i] H Q:=⟨i,rfl,q⟩
theorem r_isN {x:V} (q:Q (.bl (decide (x=.non))) H):rIsNo x .non H Q:=⟨rfl,q⟩
theorem r_isI {x:V}{k:Kd} (h:HasK H x k) (q:Q (.bl (k == .int || k == .bl)) H):jfi K [x,.ty "int"] H Q:=⟨x,_,_,.inl ⟨_,rfl,jg4 k⟩,h.tyOf,q⟩
theorem r_isB {x:V}{k:Kd} (h:HasK H x k) (q:Q (.bl (k == .bl)) H):jfi K [x,.ty "bool"] H Q:=⟨x,_,_,.inl ⟨_,rfl,je8 k⟩,h.tyOf,q⟩
theorem jfj {x:V}{k:Kd} (h:HasK H x k) (q:Q (.bl (k == .str)) H):jfi K [x,.ty "str"] H Q:=⟨x,_,_,.inl ⟨_,rfl,jg5 k⟩,h.tyOf,q⟩
theorem j69 {x:V}{k:Kd} (h:HasK H x k) (q:Q (.bl (k == .tup)) H):jfi K [x,.ty "tuple"] H Q:=⟨x,_,_,.inl ⟨_,rfl,jbj k⟩,h.tyOf,q⟩
theorem jip {x:V}{k:Kd} (h:HasK H x k) (q:Q (.bl (k == .lst)) H):jfi K [x,.ty "list"] H Q:=⟨x,_,_,.inl ⟨_,rfl,je9 k⟩,h.tyOf,q⟩
theorem r_lenS {p:Addr}{xs:List V} (h:SqL K H p xs) (q:Q (.int xs.length) H):rLen K [.ref p] H Q:=⟨_,_,rfl,.inl ⟨xs,h,rfl⟩,q⟩
theorem r_lenL {p:Addr}{xs:List V} (h:H p=some (.lst xs)) (q:Q (.int xs.length) H):rLen K [.ref p] H Q:=⟨_,_,rfl,.inl ⟨xs,SqL.of h,rfl⟩,q⟩
theorem r_lenT {p:Addr}{xs:List V} (h:H p=some (.tup xs)) (q:Q (.int xs.length) H):rLen K [.ref p] H Q:=⟨_,_,rfl,.inr ⟨xs,SqT.of h,rfl⟩,q⟩
theorem r_ixS {p:Addr}{xs:List V}{i:Int}{v:V} (h:SqL K H p xs) (e:atI xs i=some v) (q:Q v H):rIx K (.ref p) (.int i) H Q:=.inl ⟨p,xs,i,v,rfl,rfl,h,e,q⟩
theorem j26 {p:Addr}{xs:List V}{i:Int}{v:V} (h:H p=some (.lst xs)) (e:atI xs i=some v) (q:Q v H):rIx K (.ref p) (.int i) H Q:=.inl ⟨p,xs,i,v,rfl,rfl,SqL.of h,e,q⟩
theorem j11 {p:Addr}{xs:List V}{i:Int}{v:V} (h:H p=some (.tup xs)) (e:atI xs i=some v) (q:Q v H):rIx K (.ref p) (.int i) H Q:=.inr (.inl ⟨p,xs,i,v,rfl,rfl,SqT.of h,e,q⟩)
theorem j18 {α:Type}{xs:List α}{i:Int}{v:α} (h0:0≤i) (h:xs[i.toNat]?=some v):atI xs i=some v:=by
 have:=jfu h
 rwa [Int.toNat_of_nonneg h0] at this
theorem j33 {p:Addr}{xs:List V} (h:H p=some (.tup xs)) (q:∀ l H',H l=none→H' l=some (.lst xs)→Ext H H'→Q (.ref l) H'):rList K [.ref p] H Q:=⟨p,xs,rfl,.inr (SqT.of h),fun l n=>q l _ n j0a (j1e n)⟩
theorem j2u {p:Addr}{xs:List V} (h:H p=some (.lst xs)) (q:∀ l H',H l=none→H' l=some (.tup xs)→Ext H H'→Q (.ref l) H'):jg6 K [.ref p] H Q:=⟨p,xs,rfl,.inl ⟨SqL.of h,fun l n=>q l _ n j0a (j1e n)⟩⟩
end
theorem iteD {c A B:Prop} [Decidable c] (h1:c→A) (h2:¬ c→B):if decide c=true then A else B:=by
 by_cases h:c
 ·rw[decide_eq_true h];exact iteT (h1 h)
 ·rw[decide_eq_false h];exact iteF (h2 h)
theorem iteN {c A B:Prop} [Decidable c] (h1:¬ c→A) (h2:c→B):if (!decide c)=true then A else B:=by
 by_cases h:c
 ·rw[decide_eq_true h];exact iteF (h2 h)
 ·rw[decide_eq_false h];exact iteT (h1 h)
theorem mulM {c n:Int} (hb:ib c≤1048577) (n0:0≤n) (n1:n < 2147483629):CMulB (c+n) 948273388530662767682822077:=by
 refine .inr (.inr ?_)
 have h1:ib n≤31:=intBits_le (by omega)
 have h2:ib (c+n)≤1048578:=by
  exact Nat.le_trans (PySem.intBits_add_le hb h1) (by decide)
 have h3:ib 948273388530662767682822077≤100:=intBits_le (by decide)
 unfold IntMulOk
 have h:Builtin.Int.intTooBig (Builtin.Int.intBits (c+n)+Builtin.Int.intBits 948273388530662767682822077)=false:=by
  unfold Builtin.Int.intTooBig bitsLine
  have h4:Builtin.Int.intBits (c+n)≤1048578:=h2
  have h5:Builtin.Int.intBits 948273388530662767682822077≤100:=h3
  exact decide_eq_false (by omega)
 rw[h]
 simp
abbrev NoX:Value→Shared→Prop:=fun _ _=>False
def j8f:List TT→TT
 | []=>fun _ H Q=>Q true H
 | t :: r=>fun σ H Q=>t σ H fun b H1=>if b=true then j8f r σ H1 Q else Q false H1
def PTs (X:Cx):List Expr→List TT→Prop
 | [],[]=>True
 | e :: es,t :: ts=>PT X e t∧PTs X es ts
 | _,_=>False
def j2v (env:Env) (ifs:List Expr) (b:Bool):Sem Bool:=forIn ifs b fun c r=>if r=true then do let ok ← isTrue c env (eval c env);pure (ForInStep.yield ok) else pure (ForInStep.yield r)
theorem j7m {M:Model}{A:Around}{E:Value→Shared→Prop}{s:Shared}{env:Env}{Q:Bool→Shared→Prop} (h:Q false s):∀ ifs:List Expr,wpAny M A (j2v env ifs false) Q E s
 | []=>wpAny_pure h
 | c :: r=>by
  unfold j2v
  rw[List.forIn_cons]
  simp only[Bool.false_eq_true,if_false]
  exact wpAny_bind (wpAny_pure (j7m h r))
theorem j9h {X:Cx}{pins:List (Addr × Obj)}{σ:St}{Q:Bool→Hp→Prop}:∀ (ifs:List Expr) (ts:List TT) (s:Shared) (H:Hp),PTs X ifs ts→Inv X pins σ H s→j8f ts σ H Q→wpAny (model X.prog X.w) X.A (j2v X.env ifs true) (TP X pins σ Q) X.xe s
 | [],[],s,H,_,I,h=>wpAny_pure ⟨H,I,h⟩
 | [],_ :: _,_,_,p,_,_=>p.elim
 | _ :: _,[],_,_,p,_,_=>p.elim
 | c :: r,t :: ts,s,H,p,I,h=>by
  unfold j2v
  rw[List.forIn_cons]
  simp only[if_true]
  refine wpAny_bind (wpAny_bind (thn (p.1 pins s σ H _ I h) fun b s1 ⟨H1,I1,q1⟩=>wpAny_pure ?_))
  cases b with
  | true=>exact j9h r ts s1 H1 p.2 I1 (by simpa using q1)
  | false=>exact j7m ⟨H1,I1,by simpa using q1⟩ r
section
variable {prog:Program}{w:World}{A:Around}{R:Result→Shared→Prop}
theorem jbk {elt tg iter:Expr}{ifs:List Expr}{scope:Scope}{pos:Pos}{it acc:Value}{env:Env} (J:Nat→Shared→Prop)
  (turn:∀ n s,J n s→wpAny (model prog w) A (pyNext it) (fun r s1=>match r with
   | none=>R (.ok .next) s1
   | some v=>wpAny (model prog w) A (letOwnedTupleGo tg it v) (fun _ s2=>wpAny (model prog w) A (assign tg env v) (fun _ s3=>wpAny (model prog w) A (j2v env ifs true) (fun ok s4 =>
     if ok=true then wpAny (model prog w) A (eval elt env) (fun x s5=>wpAny (model prog w) A (call (.builtin "list.append") [acc,x]) (fun _ s6=>∃ m,m < n∧J m s6) NoX s5) NoX s4
     else ∃ m,m < n∧J m s4) NoX s3) NoX s2) NoX s1) NoX s) (n:Nat) {s:Shared} (h:J n s) :
  codeAny (model prog w) A (.compLoop (.ListComp elt [⟨tg,iter,ifs,0⟩] scope pos) 0 it acc env) R s:=by
 refine codeAny_loop rfl J (fun n s hJ=>?_) n h
 show wpAny _ A ((compTurn (.ListComp elt [⟨tg,iter,ifs,0⟩] scope pos) 0 it acc env).onRaise _) _ _ s
 refine wpAny_noted ?_
 have nx:∀ {E:Value→Shared→Prop} (e:Value) (s:Shared),NoX e s→E e s:=fun _ _ f=>f.elim
 rw[compTurn_list]
 refine wpAny_bind (wpAny_standAt (wpAny_bind (wpAny_mono (turn n s hJ) (fun r s1 q1=>?_) nx)))
 cases r with
 | none=>exact wpAny_pure q1
 | some v =>
  refine wpAny_bind (wpAny_mono q1 (fun _ s2 q2=>?_) nx)
  refine wpAny_bind (wpAny_mono q2 (fun _ s3 q3=>?_) nx)
  refine wpAny_bind (wpAny_mono (show wpAny _ _ (j2v env ifs true) _ _ _ from q3) (fun ok s4 q4=>?_) nx)
  cases ok with
  | false=>exact wpAny_pure ⟨rfl,q4⟩
  | true =>
   refine wpAny_bind (wpAny_bind (wpAny_mono q4 (fun x s5 q5=>?_) nx))
   exact wpAny_bind (wpAny_mono q5 (fun _ s6 q6=>wpAny_pure (wpAny_pure ⟨rfl,q6⟩)) nx)
end
def j35 (cells:List (Str × Addr)):List (Str × NameKind)→List (Str × Addr)→Option (List (Str × Addr))
 | [],cs=>some cs
 | (n,k) :: r,cs=>if (k == .free)=true then (match cells.lookup n with | some a=>j35 cells r ((n,a) :: cs) | none=>none) else j35 cells r cs
theorem j6m {env:Env}:∀ (names:List (Str × NameKind)) (cs cl:List (Str × Addr)),j35 env.cells names cs=some cl →
  (forIn names cs fun x r=>match x with | (name,kind)=>if (kind == .free)=true then do let a ← cellOf env name;pure (ForInStep.yield ((name,a) :: r)) else pure (ForInStep.yield r):Sem (List (Str × Addr)))=pure cl
 | [],cs,cl,h=>by
  cases h
  rfl
 | (n,k) :: r,cs,cl,h=>by
  rw[List.forIn_cons]
  unfold j35 at h
  by_cases hk:(k == NameKind.free)=true
  ·rw[if_pos hk] at h
   dsimp only
   rw[if_pos hk]
   unfold cellOf
   cases e:env.cells.lookup n with
   | none=>rw[e] at h;cases h
   | some a =>
    rw[e] at h
    exact j6m r _ cl h
  ·rw[if_neg hk] at h
   dsimp only
   rw[if_neg hk]
   exact j6m r cs cl h
theorem j34 {scope:Scope}{env:Env}{cl:List (Str × Addr)} (h:j35 env.cells scope.names []=some cl):closureFor scope env=pure cl:=by
 have e:closureFor scope env=((forIn scope.names ([]:List (Str × Addr)) fun x r=>match x with | (name,kind)=>if (kind == .free)=true then do let a ← cellOf env name;pure (ForInStep.yield ((name,a) :: r)) else pure (ForInStep.yield r):Sem (List (Str × Addr))) >>= fun cs=>pure cs):=by
  first | rfl | (unfold closureFor;rfl)
 rw[e,j6m _ _ _ h]
 rfl
theorem j4p {cells:List (Str × Addr)}:∀ (names:List (Str × NameKind)) (cs cl:List (Str × Addr)),j35 cells names cs=some cl→(∀ x c,cs.lookup x=some c→cells.lookup x=some c)→∀ x c,cl.lookup x=some c→cells.lookup x=some c
 | [],cs,cl,h,p=>by cases h;exact p
 | (n,k) :: r,cs,cl,h,p=>by
  unfold j35 at h
  split at h
  ·split at h
   ·rename_i a e
    refine j4p r _ cl h fun x c q=>?_
    rw[List.lookup_cons] at q
    by_cases hx:(x == n)=true
    ·rw[hx] at q
     have:x=n:=by simpa using hx
     subst this
     cases q
     exact e
    ·have hx':(x == n)=false:=by simpa using hx
     rw[hx'] at q
     exact p x c q
   ·cases h
  ·exact j4p r cs cl h p
theorem j4q {cells:List (Str × Addr)}:∀ (names:List (Str × NameKind)) (cs cl:List (Str × Addr)),j35 cells names cs=some cl→∀ x,((∃ c,cs.lookup x=some c)∨(x,NameKind.free)∈names)→∃ c,cl.lookup x=some c
 | [],cs,cl,h,x,p=>by
  cases h
  rcases p with p | p
  ·exact p
  ·simp at p
 | (n,k) :: r,cs,cl,h,x,p=>by
  unfold j35 at h
  split at h
  ·split at h
   ·rename_i a e
    refine j4q r _ cl h x ?_
    by_cases hx:x=n
    ·exact .inl ⟨a,by rw[List.lookup_cons,hx];simp⟩
    ·have hx':(x == n)=false:=by simpa using hx
     rcases p with⟨c,p⟩ | p
     ·exact .inl ⟨c,by rw[List.lookup_cons,hx'];exact p⟩
     ·rcases List.mem_cons.mp p with q | q
      ·cases q;exact absurd rfl hx
      ·exact .inr q
   ·cases h
  ·rename_i hk
   refine j4q r _ cl h x ?_
   rcases p with p | p
   ·exact .inl p
   ·rcases List.mem_cons.mp p with q | q
    ·cases q;exact absurd rfl hk
    ·exact .inr q
theorem j4h {scope:Scope}{env:Env} (hc:∀ y∈scope.names,y.2≠.cell) {x:Str} (h:(relabel scope env).names.lookup x=some .cell∨(relabel scope env).names.lookup x=some .free):(x,NameKind.free)∈scope.names:=by
 have key:∀ k,(k=.cell∨k=.free)→(relabel scope env).names.lookup x=some k→(x,NameKind.free)∈scope.names:=fun k hk e=>by
  have m:=PySem.mem_of_lookup e
  obtain⟨⟨n,k'⟩,hm,e2⟩:=List.mem_map.mp m
  dsimp only at e2
  split at e2
  ·rename_i q
   cases e2
   have:k'=.free:=by
    have:=(Bool.and_eq_true_iff.mp (Bool.and_eq_true_iff.mp q).1).1
    simpa using this
   subst this
   exact hm
  ·cases e2
   rcases hk with rfl | rfl
   ·exact absurd rfl (hc _ hm)
   ·exact hm
 exact h.elim (key _ (.inl rfl)) (key _ (.inr rfl))
def j1v (X:Cx) (pins:List (Addr × Obj)) (N:List Str) (scope:Scope) (cl:List (Str × Addr)) (fp:List Addr) (s:Shared) (H:Hp):Cx where
 prog:=X.prog
 w:=X.w
 K:=X.K
 mg:=X.mg
 base:=X.base
 A:=X.A
 N:=N
 s₀:=s
 H₀:=H
 env:=compEnvC scope cl s.heap.objs.size X.env
 outer:=X.stack
 stack:=X.stack
 ex:=fp
 fn:=fun _=>false
 calm:=X.calm
 pn:=X.pn++pins
 xe:=NoX
def Frees (X:Cx) (sc:Scope):List Str→List Nat→Prop
 | [],[]=>True
 | y :: ys,j :: js=>(X.N[j]?=some y∧(X.env.kindOf y=some .cell∨X.env.kindOf y=some .free)∧(sc.names.lookup y=some .cell∨sc.names.lookup y=some .free))∧Frees X sc ys js
 | _,_=>False
theorem Frees.get {X:Cx}{sc:Scope}:∀ {ys:List Str}{js:List Nat}{i:Nat}{y:Str},Frees X sc ys js→ys[i]?=some y→∃ j,js[i]?=some j∧X.N[j]?=some y∧(X.env.kindOf y=some .cell∨X.env.kindOf y=some .free)∧(sc.names.lookup y=some .cell∨sc.names.lookup y=some .free)
 | [],_,_,_,_,e=>by simp at e
 | _ :: _,[],_,_,h,_=>h.elim
 | y :: ys,j :: js,0,z,h,e=>by
  simp at e
  subst e
  exact⟨j,rfl,h.1⟩
 | y :: ys,j :: js,i+1,z,h,e=>Frees.get (ys:=ys) (js:=js) (i:=i) h.2 (by simpa using e)
theorem Frees.len {X:Cx}{sc:Scope}:∀ {ys:List Str}{js:List Nat},Frees X sc ys js→ys.length=js.length
 | [],[],_=>rfl
 | [],_ :: _,h=>h.elim
 | _ :: _,[],h=>h.elim
 | _ :: ys,_ :: js,h=>by rw[List.length_cons,List.length_cons,Frees.len h.2]
def jeb (σ:St) (j:Nat):Option V:=match σ[j]? with | some o=>o | none=>none
def cSt (own:List Str) (js:List Nat) (σ:St):St:=own.map (fun _=>none)++js.map (jeb σ)
section
variable {X:Cx}{pins:List (Addr × Obj)}{σ:St}{H:Hp}{s:Shared}
theorem j9i {own fr:List Str}{js:List Nat}{scope:Scope}{cl:List (Str × Addr)}{fp:List Addr}{h':Heap}{tk:Nat} (I:Inv X pins σ H s) (hkind:scope.kind=.function) (hc:∀ y∈scope.names,y.2≠.cell)
  (hcl:j35 X.env.cells scope.names []=some cl) (hF:Frees X (relabel scope X.env) fr js) (hfp:∀ b∈fp,FpOk X pins H b) (hlt:∀ b∈fp,b < s.heap.objs.size)
  (hn:h'.Ns s.heap.objs.size (fun _=>none)) (hk:∀ b o,s.heap.get? b=some o→h'.get? b=some o) :
  Inv (j1v X pins (own++fr) scope cl fp s H) [] (cSt own js σ) H { s with heap:=h',toks:=tk }:=by
 have sub:=j4p _ _ _ hcl (fun _ _ q=>by simp at q)
 have clt:∀ x c,X.env.cells.lookup x=some c→c < s.heap.objs.size:=fun x c e=>by obtain⟨v,q⟩:=I.cell x c e;exact q.lt
 refine⟨⟨I.ok.mod,hkind,I.ok.glob,I.ok.blt,Nat.le_refl _,fun x y c e1 e2=>I.ok.inj x y c (sub _ _ e1) (sub _ _ e2),fun x hx=>?_,(fun x c q=>Bool.noConfusion (show false=true from q)),I.ok.hd,I.ok.frames,.inl rfl,fun b hb=>⟨Nat.ne_of_lt (hlt b hb),fun x c e=>(hfp b hb).2.2.2.2.1 x c (sub x c e)⟩,
  I.bs,Nat.le_trans I.ok.bsz I.sz,fun b o e hb=>?_,fun b hb hq=>?_,I.stack,I.stkFree⟩,rfl,I.bare,Un.kept hk,⟨_,hn,fun i x v e1 e2 e3=>?_⟩,fun x c e=>?_,I.hok.fresh (Nat.le_refl _),fun x c e=>I.freeC x c (sub x c e),fun p hp=>?_,I.hok.kept hk,?_⟩
 ·exact j4q _ _ _ hcl x (.inr (j4h hc hx))
 ·rcases (hfp b hb).2.2.2.1 with q | q
  ·exact I.ok.noex b o e q
  ·exact absurd (Heap.lt_size (I.ok.bs b o e).1) (Nat.not_lt.mpr q)
 ·have:=I.stkSub b hq
  rcases List.mem_cons.mp this with z | z
  ·exact (hfp b hb).2.1 z
  ·exact (hfp b hb).2.2.1 z
 ·have hi:own.length≤i:=by
   refine Nat.le_of_not_lt fun q=>?_
   unfold cSt at e2
   rw[List.getElem?_append_left (by simpa using q),List.getElem?_map] at e2
   cases z:own[i]? with
   | none=>rw[z] at e2;cases e2
   | some y=>rw[z] at e2;cases e2
  have e1':fr[i-own.length]?=some x:=by
   have:(own++fr)[i]?=some x:=e1
   rwa [List.getElem?_append_right hi] at this
  obtain⟨j,hj,nj,kj,lj⟩:=hF.get e1'
  have e2':jeb σ j=some v:=by
   unfold cSt at e2
   rw[List.getElem?_append_right (by simpa using hi),List.length_map,List.getElem?_map,hj] at e2
   exact Option.some.inj e2
  have e4:σ[j]?=some (some v):=by
   unfold jeb at e2'
   split at e2'
   ·rename_i o q;rw[q,e2']
   ·cases e2'
  obtain⟨m,hm,hl⟩:=I.loc
  obtain⟨u,ru,lk⟩:=hl j x v nj e4 (kj.elim (fun q=>.inr (.inl q)) fun q=>.inr (.inr q))
  refine⟨u,ru,.inr ⟨lj,?_⟩⟩
  rcases lk with⟨q,_⟩ | ⟨_,c,ec,ic⟩
  ·rcases kj with k | k <;> (rw[q] at k;cases k)
  ·obtain⟨c',ec'⟩:=j4q _ _ _ hcl x (.inr (j4h hc lj))
   have:=sub _ _ ec'
   rw[ec] at this
   cases this
   exact⟨c,ec',ic.keeps hk⟩
 ·obtain⟨v,q⟩:=I.cell x c (sub x c e)
  exact⟨v,q.keeps hk⟩
 ·have hp':p∈X.pn++pins:=by
   rcases List.mem_append.mp hp with q | q
   ·exact q
   ·simp at q
  obtain⟨q1,q2,q3,q4,q5⟩:=I.pin p hp'
  refine⟨hk _ _ q1,q2,Nat.ne_of_lt (Heap.lt_size q1),fun z=>?_,q5⟩
  rcases List.mem_cons.mp (I.stkSub _ z) with y | y
  ·exact q3 y
  ·exact q4 y
 ·show (cSt own js σ).length=(own++fr).length
  unfold cSt
  rw[List.length_append,List.length_append,List.length_map,List.length_map,hF.len]
theorem jbl {N:List Str}{scope:Scope}{cl:List (Str × Addr)}{fp:List Addr}{σ':St}{H':Hp}{s':Shared}{ps:List (Addr × Obj)} (I:Inv X pins σ H s) (hfp:∀ b∈fp,FpOk X pins H b)
  (J:Inv (j1v X pins N scope cl fp s H) ps σ' H' s'):Inv X pins σ H' s':=by
 refine I.call' (ch:=fp) J.os J.base J.hok J.bare fun b hb=>?_
 obtain⟨_,f1,_,f3,f4,f5⟩:=hfp b hb
 exact⟨f3,f1,f4,f5⟩
end
def accO (a:Addr) (ys:List V):HO:=.ext fun h=>ys.length≤sizeLine∧∃ (its:List Value) (n:Nat),Vals ys its∧h.get? a=some { cls:=.type "list",data:=.seq its.toArray n }
theorem jgj {P:Program}{w:World}{H:Hp}{h:Heap}{a:Addr}{ys:List V} (o:ObjOk P w H h a (.lst ys)):ObjOk P w H h a (accO a ys):=by
 obtain⟨z,its,n,r,e⟩:=o
 exact⟨⟨z,its,n,r,e⟩,⟨_,e⟩,fun h1 h2 ⟨z,its,n,r,e⟩ k=>⟨z,its,n,r,k _ e⟩⟩
theorem jgk {P:Program}{w:World}{H:Hp}{h:Heap}{a:Addr}{ys:List V} (o:ObjOk P w H h a (accO a ys)):ObjOk P w H h a (.lst ys):=by
 obtain⟨⟨z,its,n,r,e⟩,_⟩:=o
 exact⟨z,its,n,r,e⟩
def jgl:HO→Bool
 | .lst _=>true | .ext _=>true | _=>false
theorem Inv.retrack {X:Cx}{pins:List (Addr × Obj)}{σ:St}{H:Hp}{s:Shared}{a:Addr}{o o':HO} (I:Inv X pins σ H s) (h:H a=some o) (hp:jgl o=true) (new:∀ H',ObjOk X.prog X.w H' s.heap a o'):Inv X pins σ (upd H a o') s:=by
 have ne:∀ {b:Addr}{u:HO},H b=some u→jgl u=false→b≠a:=fun hb hu z=>by subst z;rw[h] at hb;cases hb;rw[hp] at hu;cases hu
 have I':=I.un (h':=s.heap) (t':=s.toks) (H':=upd H a o') ⟨fun _ _ e _ _ _=>e,fun b u e _ _ _=>⟨u.slots,e⟩,fun b u _ n _=>by rw[j0e (fun z=>by subst z;rw[h] at n;cases n)];exact n,fun b u e _=>⟨u,e⟩,
  fun b xs e=>by rw[j0e (ne e rfl)];exact e,fun b ob u e=>by rw[j0e (ne e rfl)];exact e,fun b ps e=>⟨#[],by rw[j0e (ne e rfl),e];simp⟩⟩ (fun b u e=>by
   by_cases hb:b=a
   ·subst hb;rw[j0a] at e;cases e;exact new _
   ·rw[j0e hb] at e
    exact (I.hok b u e).stay (fun _ _ _ q=>q) (fun c q=>by rw[j0e (ne q rfl)];exact q) fun c xs q=>by rw[j0e (ne q rfl)];exact q)
 exact I'
theorem jgm {H:Hp}{a:Addr}{o o':HO} (h:H a=some o) (hd:jg2 o=false):Kp H (upd H a o'):=fun b u e d=>by
 rw[j0e (fun z=>by subst z;rw[h] at e;cases e;rw[hd] at d;cases d)];exact e
def j7n (J:It) (g:TG) (ts:List TT) (te:TE) (acc:Addr) (σ0:St) (H0:Hp) (Q:Hp→Prop):Prop :=
 ∃ W:Nat→Nat→St→List V→Hp→Prop,(∃ m,W 0 m σ0 [] (upd H0 acc (accO acc [])))∧∀ i m σ ys H,W i m σ ys H→H acc=some (accO acc ys) →
  (J.stop i H∧Q (upd H acc (.lst ys)))∨(J.go i H∧∀ x H',J.yld i H x H'→g x σ H' fun σ2 H2=>j8f ts σ2 H2 fun b H3 =>
   if b=true then te σ2 H3 fun y H4=>H4 acc=some (accO acc ys)∧ys.length < sizeLine∧∃ m',m' < m∧W (i+1) m' σ2 (ys++[y]) (upd H4 acc (accO acc (ys++[y])))
   else H3 acc=some (accO acc ys)∧∃ m',m' < m∧W (i+1) m' σ2 ys H3)
abbrev CA (α:Type):=List (Addr × Obj)→List Addr→Shared→Hp→α
def jk4 (wi:TI) (own:List Str) (js:List Nat) (g:CA TG) (ts:CA (List TT)) (te:CA TE):TE:=fun σ H Q=>wi σ H fun J H1=>∀ acc,H1 acc=none→∀ pins fp s Hc,j7n J (g pins fp s Hc) (ts pins fp s Hc) (te pins fp s Hc) acc (cSt own js σ) H1 fun H'=>Q (.ref acc) H'
structure CompOk (X:Cx) (scope:Scope) (cl:List (Str × Addr)) (own fr:List Str) (js:List Nat):Prop where
 kind:scope.kind=.function
 nc:∀ y∈scope.names,y.2≠.cell
 nl:∀ y∈scope.names,y.2=.local→scope.names.lookup y.1=some .local
 clos:j35 X.env.cells scope.names []=some cl
 frees:Frees X (relabel scope X.env) fr js
section
variable {X:Cx}{pins:List (Addr × Obj)}{σ:St}{H:Hp}{s:Shared}
theorem j7o {elt tg iter:Expr}{ifs:List Expr}{scope:Scope}{pos:Pos}{cl:List (Str × Addr)}{own fr:List Str}{js:List Nat}{g:CA TG}{ts:CA (List TT)}{te:CA TE}{R:Hp→Addr→Prop}{RR:Value→Addr→Result→Shared→Prop}{it:Addr}{fp:List Addr}{tn:Nat→Heap→Prop}{J:It}{E:Value→Shared→Prop}
  (O:CompOk X scope cl own fr js) (hcalm:X.calm=true)
  (hb:∀ pins fp s Hc,PG (j1v X pins (own++fr) scope cl fp s Hc) tg (g pins fp s Hc)∧PTs (j1v X pins (own++fr) scope cl fp s Hc) ifs (ts pins fp s Hc)∧PE (j1v X pins (own++fr) scope cl fp s Hc) elt (te pins fp s Hc))
  (I:Inv X pins σ H s) (T:Turn X.prog X.w X.K tg J fp it tn) (t0:tn 0 s.heap) (hf:∀ b∈fp,FpOk X pins H b)
  (h:∀ acc,H acc=none→∀ pins fp s Hc,j7n J (g pins fp s Hc) (ts pins fp s Hc) (te pins fp s Hc) acc (cSt own js σ) H fun H'=>R H' acc)
  (fin:∀ acc C H' s' m,Inv X pins σ H' s'→R H' acc→s'.heap.Ns C m→FpOk X pins H' C→RR (.ref acc) C (.ok .next) s') :
  wpAny (model X.prog X.w) X.A (newList []) (fun acc s3=>wpAny (model X.prog X.w) X.A (newFunctionEnv scope X.env.globals cl [] X.env.qual none .none (some X.env)) (fun cenv s4 =>
   codeAny (model X.prog X.w) X.A (.compStart (.ListComp elt [⟨tg,iter,ifs,0⟩] scope pos) 0 (.ref it) acc { cenv with scope:=relabel scope X.env }) (RR acc cenv.locals) s4) E s3) E s:=by
 have n0:H s.heap.objs.size=none:=I.hok.fresh (Nat.le_refl _)
 have flt:∀ b∈fp,b < s.heap.objs.size:=fun b hb=>by obtain⟨o,e,_⟩:=T.obj 0 _ t0 b hb;exact Heap.lt_size e
 refine wpAny_newList ?_
 have I3:Inv X pins σ (upd H s.heap.objs.size (accO s.heap.objs.size [])) { s with heap:=s.heap.push { cls:=.type "list",data:=.seq ([]:List Value).toArray } } :=
  I.laid (t':=s.toks) (fun b o e=>Heap.get?_push_of_some _ e) (Nat.le_refl _) (jgj (show ObjOk X.prog X.w _ _ _ (.lst []) from⟨Nat.zero_le _,[],0,.nil,Heap.get?_push_size _ rfl⟩))
 have hf3:∀ b∈fp,FpOk X pins (upd H s.heap.objs.size (accO s.heap.objs.size [])) b:=fun b hb=>⟨by rw[j0e (Nat.ne_of_lt (flt b hb))];exact (hf b hb).1,(hf b hb).2⟩
 have t3:tn 0 (s.heap.push { cls:=.type "list",data:=.seq ([]:List Value).toArray }):=T.keep _ _ _ t0 fun b _ o e=>Heap.get?_push_of_some _ e
 specialize h s.heap.objs.size n0
 generalize hs3:({ s with heap:=s.heap.push { cls:=.type "list",data:=.seq ([]:List Value).toArray } }:Shared)=s3 at I3 ⊢
 have t3':tn 0 s3.heap:=by rw[← hs3];exact t3
 have lt3:∀ b∈fp,b < s3.heap.objs.size:=fun b hb=>by rw[← hs3];exact Nat.lt_of_lt_of_le (flt b hb) (by rw[Heap.size_push];exact Nat.le_succ _)
 generalize hH3:upd H s.heap.objs.size (accO s.heap.objs.size [])=H3 at I3 hf3
 generalize hacc:s.heap.objs.size=acc at *
 refine wpAny_newFunctionEnv O.nc (by intro x hx;simp at hx) (fun h1 hns hsb=>?_) O.kind
 have hk:∀ b o,s3.heap.get? b=some o→h1.get? b=some o:=fun b o e=>(hsb.2 b (Nat.ne_of_lt (Heap.lt_size e))).trans (Heap.get?_push_of_some _ e)
 have Ic:Inv (j1v X pins (own++fr) scope cl fp s3 H3) [] (cSt own js σ) H3 { s3 with heap:=h1,toks:=s3.toks+0 }:=j9i I3 O.kind O.nc O.clos O.frees hf3 lt3 hns hk
 obtain⟨W,⟨m0,w0⟩,turn⟩:=h pins fp s3 H3
 obtain⟨hg,ht,he⟩:=hb pins fp s3 H3
 have stat:∀ {H':Hp}{ps:List (Addr × Obj)},ps=[]→(∀ b∈fp,H' b=none)→∀ b∈fp,FpOk (j1v X pins (own++fr) scope cl fp s3 H3) ps H' b:=fun {H' ps} hps hn b hb=>by
  obtain⟨f0,f1,f2,f3,f4,f5⟩:=hf3 b hb
  refine⟨hn b hb,Nat.ne_of_lt (lt3 b hb),fun z=>?_,.inl hb,fun x c e=>f4 x c (j4p _ _ _ O.clos (fun _ _ q=>by simp at q) x c e),fun p hp=>?_⟩
  ·rcases List.mem_cons.mp (I3.stkSub b z) with q | q
   ·exact f1 q
   ·exact f2 q
  ·subst hps
   rcases List.mem_append.mp hp with q | q
   ·exact f5 p q
   ·simp at q
 have loop:∀ {sx:Shared},Inv (j1v X pins (own++fr) scope cl fp s3 H3) [] (cSt own js σ) H3 sx→tn 0 sx.heap →
   codeAny (model X.prog X.w) X.A (.compLoop (.ListComp elt [⟨tg,iter,ifs,0⟩] scope pos) 0 (.ref it) (.ref acc) (compEnvC scope cl s3.heap.objs.size X.env)) (RR (.ref acc) s3.heap.objs.size) sx:=fun {sx} Jx tx=>by
  refine jbk (fun n s'=>∃ i σc ys H',Inv (j1v X pins (own++fr) scope cl fp s3 H3) [] σc H' s'∧tn i s'.heap∧(∀ b∈fp,H' b=none)∧H' acc=some (accO acc ys)∧W i n σc ys H') ?_ m0 ⟨0,_,[],H3,Jx,tx,fun b hb=>(hf3 b hb).1,by rw[← hH3];exact j0a,by rw[← hH3];exact w0⟩
  rintro n s4 ⟨i,σ4,ys,H4,I4,t4,fr4,a4,w4⟩
  rcases turn i n σ4 ys H4 w4 a4 with⟨stop,qn⟩ | ⟨go,step⟩
  ·refine thn (T.done (j1v X pins (own++fr) scope cl fp s3 H3) rfl rfl rfl hcalm i [] s4 σ4 H4 NoX I4 (stat rfl fr4) t4 stop) fun r s5 ⟨hr,I5⟩=>?_
   subst hr
   obtain⟨m,hm,_⟩:=id I5.loc
   have IX:=jbl I3 hf3 I5
   have IL:=IX.retrack (o':=.lst ys) a4 rfl fun H'=>jgk (H:=H') (by obtain⟨p1,p2,p3⟩:=IX.hok acc _ a4;exact⟨p1,p2,p3⟩)
   refine fin acc s3.heap.objs.size _ s5 m IL qn hm (I3.fpOk (Nat.le_refl _) ?_)
   have c4:H4 s3.heap.objs.size=none:=I5.free
   rw[j0e (fun z=>by rw[z,a4] at c4;cases c4)];exact c4
  ·refine thn (T.item (j1v X pins (own++fr) scope cl fp s3 H3) rfl rfl rfl hcalm i [] s4 σ4 H4 NoX I4 (stat rfl fr4) t4 go) fun r s5 ⟨u,hr,q5⟩=>?_
   subst hr
   refine thn q5 fun _ s6 ⟨x,H6,I6,r6,y6,t6,fr6⟩=>?_
   have I6':=I6.pinned (stat rfl fr6) (T.obj _ _ t6)
   refine thn (hg _ s6 σ4 H6 x u _ I6' r6 (step x H6 y6)) fun _ s7 ⟨σ7,H7,I7,q7⟩=>?_
   refine thn (j9h ifs _ s7 H7 ht I7 q7) fun ok s8 ⟨H8,I8,q8⟩=>?_
   have again:∀ {σ9:St}{H9:Hp}{s9:Shared}{zs:List V}{m:Nat},Inv (j1v X pins (own++fr) scope cl fp s3 H3) ([]++j90 fp s6.heap) σ9 H9 s9→H9 acc=some (accO acc zs)→m < n→W (i+1) m σ9 zs H9 →
     ∃ m,m < n∧∃ i σc ys H',Inv (j1v X pins (own++fr) scope cl fp s3 H3) [] σc H' s9∧tn i s9.heap∧(∀ b∈fp,H' b=none)∧H' acc=some (accO acc ys)∧W i m σc ys H':=fun {σ9 H9 s9 zs m} I9 a9 hm w9=>by
    refine⟨m,hm,i+1,σ9,zs,H9,I9.unpinned,T.keep _ _ _ t6 fun b hb o e=>(I9.pin (b,o) (List.mem_append_right _ (List.mem_append_right _ (j2j hb e)))).1,fun b hb=>?_,a9,w9⟩
    obtain⟨o,e,d⟩:=T.obj _ _ t6 b hb
    exact (I9.pin (b,o) (List.mem_append_right _ (List.mem_append_right _ (j2j hb e)))).2.1
   cases ok with
   | false =>
    obtain⟨a8,m',hm,w8⟩:=(show H8 acc=some (accO acc ys)∧∃ m',m' < n∧W (i+1) m' σ7 ys H8 by simpa using q8)
    exact again I8 a8 hm w8
   | true =>
    have q8':te pins fp s3 H3 σ7 H8 fun y H4=>H4 acc=some (accO acc ys)∧ys.length < sizeLine∧∃ m',m' < n∧W (i+1) m' σ7 (ys++[y]) (upd H4 acc (accO acc (ys++[y]))):=by simpa using q8
    refine thn (he _ s8 σ7 H8 _ I8 q8') fun v s9 ⟨y,H9,I9,r9,a9,hl,m',hm,w9⟩=>?_
    have IL:=I9.retrack (o':=.lst ys) a9 rfl fun H'=>jgk (H:=H') (by obtain⟨p1,p2,p3⟩:=I9.hok acc _ a9;exact⟨p1,p2,p3⟩)
    refine thn (j39 _ s9 σ7 _ (.ref acc) [y] (.ref acc) [v] (fun _ H'=>H'=upd H9 acc (.lst (ys++[y]))) IL rfl (.cons r9 .nil) ⟨acc,ys,y,rfl,rfl,j0a,hl,by rw[jco]⟩) fun _ s10 ⟨_,H10,I10,_,e10⟩=>?_
    subst e10
    have I11:=I10.retrack (o':=accO acc (ys++[y])) j0a rfl fun H'=>jgj (H:=H') (by obtain⟨p1,p2,p3⟩:=I10.hok acc _ j0a;exact⟨p1,p2,p3⟩)
    rw[jco] at I11
    exact again I11 j0a hm w9
 exact codeAny_compStart_list (loop Ic (T.keep _ _ _ t3' fun b _ o e=>hk b o e)) (T.self _ 0 _ _ _ (T.keep _ _ _ t3' fun b _ o e=>hk b o e) (loop Ic (T.keep _ _ _ t3' fun b _ o e=>hk b o e)))
theorem j1r {elt tg iter:Expr}{ifs:List Expr}{scope:Scope}{pos:Pos}{cl:List (Str × Addr)} (own fr:List Str) (js:List Nat) {wi:TI}{g:CA TG}{ts:CA (List TT)}{te:CA TE}
  (hcalm:X.calm=true) (O:CompOk X scope cl own fr js) (hi:PI X tg iter wi)
  (hb:∀ pins fp s Hc,PG (j1v X pins (own++fr) scope cl fp s Hc) tg (g pins fp s Hc)∧PTs (j1v X pins (own++fr) scope cl fp s Hc) ifs (ts pins fp s Hc)∧PE (j1v X pins (own++fr) scope cl fp s Hc) elt (te pins fp s Hc))
  (hs:∀ x,foldedSetIterable iter X.env x=pure x:=by intro _;rfl) :
  PE X (.ListComp elt [⟨tg,iter,ifs,0⟩] scope pos) (jk4 wi own js g ts te):=by
 intro pins s σ H Q I h
 rw[eval_ListComp]
 refine wpAny_comprehension_free (use:=none) rfl hs (j34 O.clos) O.kind O.nl (thn (hi pins s σ H _ I h) fun xv s1 q1=>thn q1 fun itv s2 q2=>?_)
 obtain⟨it,fp,tn,J,H2,rfl,I2,T,t2,f2,q⟩:=q2
 refine j7o (RR:=fun acc C=>compPost (model X.prog X.w) X.A X.xe none (EP X pins σ Q) acc C) O hcalm hb I2 T t2 f2 q fun acc C H' s' m I' r' hm hC=>⟨m,hm,fun h' sb=>?_⟩
 obtain⟨f0,f1,f2,f3,f4,f5⟩:=hC
 exact⟨.ref acc,H',I'.turned (t':=s'.toks) (fun b o hb e=>(sb.2 b hb).trans e) f0 f1 f3 f4 f5,rfl,r'⟩
theorem j5l {i:Nat}{x:Str}{elt tg iter:Expr}{ifs:List Expr}{scope:Scope}{pos pos' spos:Pos}{cl:List (Str × Addr)} (own fr:List Str) (js:List Nat) {wi:TI}{g:CA TG}{ts:CA (List TT)}{te:CA TE}
  (hN:X.N.Nodup) (hix:X.N[i]?=some x) (hx:Loc X.env.scope x) (hcalm:X.calm=true) (O:CompOk X scope cl own fr js) (hi:PI X tg iter wi)
  (hb:∀ pins fp s Hc,PG (j1v X pins (own++fr) scope cl fp s Hc) tg (g pins fp s Hc)∧PTs (j1v X pins (own++fr) scope cl fp s Hc) ifs (ts pins fp s Hc)∧PE (j1v X pins (own++fr) scope cl fp s Hc) elt (te pins fp s Hc))
  (hsw:swapsWith (.ListComp elt [⟨tg,iter,ifs,0⟩] scope pos) (some (.Name x pos')) spos.line X.env=pure true:=by rfl)
  (hs:∀ x,foldedSetIterable iter X.env x=pure x:=by intro _;rfl) (hf:X.fn x=true∨X.env.scope.names.lookup x=some .local:=by first | exact .inl rfl | exact .inr rfl | assumption) :
  PS X (.Assign [.Name x pos'] (.ListComp elt [⟨tg,iter,ifs,0⟩] scope pos) spos) (tAsg (jk4 wi own js g ts te) (j7a i)):=by
 intro pins s σ H D I h
 rw[exec_Assign_Name_used _ _ _ _ hsw]
 refine wpAny_bind (wpAny_standAt (wpAny_bind ?_))
 show wpAny _ _ (comprehension (.ListComp elt [⟨tg,iter,ifs,0⟩] scope pos) scope X.env (firstIterPos [⟨tg,iter,ifs,0⟩] pos) (newList []) false (eval iter X.env) (some (assign (.Name x pos') X.env)) >>= _) _ _ _
 refine wpAny_bind ?_
 have h':wi σ H fun J H1=>∀ acc,H1 acc=none→∀ pins fp s Hc,j7n J (g pins fp s Hc) (ts pins fp s Hc) (te pins fp s Hc) acc (cSt own js σ) H1 fun H'=>D.nx (σ.set i (some (.ref acc))) H':=h
 refine wpAny_comprehension_free (use:=some (assign (.Name x pos') X.env)) rfl hs (j34 O.clos) O.kind O.nl (thn (hi pins s σ H _ I h') fun xv s1 q1=>thn q1 fun itv s2 q2=>?_)
 obtain⟨it,fp,tn,J,H2,rfl,I2,T,t2,f2,q⟩:=q2
 refine j7o (RR:=fun acc C=>compPost (model X.prog X.w) X.A X.xe (some (assign (.Name x pos') X.env)) _ acc C) O hcalm hb I2 T t2 f2 q fun acc C H' s' m I' r' hm hC=>?_
 obtain⟨f0,f1,f2,f3,f4,f5⟩:=hC
 obtain⟨oc,es,ep,ho,hd,hr⟩:=id hm
 have IP:Inv X (pins++[(C,oc)]) σ H' s':=I'.pins_of fun p hp=>by
  rcases List.mem_append.mp hp with q | q
  ·exact I'.pin p (List.mem_append_right _ q)
  ·obtain rfl:p=(C,oc):=by simpa using q
   exact⟨ho,f0,f1,f2,fun v z=>by rw[hd] at z;cases z⟩
 refine wpAny_assign_Name (j4k IP hN hix hx (v:=.ref acc) (u:=.ref acc) rfl (fun s'' I''=>?_) hf)
 have hC'':=(I''.pin (C,oc) (List.mem_append_right _ (List.mem_append_right _ (by simp)))).1
 refine⟨m,⟨oc,es,ep,hC'',hd,hr⟩,fun h' sb=>?_⟩
 exact wpAny_pure (wpAny_pure ⟨_,H',(I''.unpinned).turned (t':=s''.toks) (fun b o hb e=>(sb.2 b hb).trans e) f0 f1 f3 f4 f5,r'⟩)
end
section
variable {K:PySem.W.Frag}{ts:List TT}{te:TE}{acc:Addr}{fr:St}{H1:Hp}{R:Hp→Prop}{xs ys:List V}
theorem r_comp {wi:TI}{own:List Str}{js:List Nat}{g:CA TG}{ts:CA (List TT)}{te:CA TE}{σ:St}{H:Hp}{Q:VK} (q:wi σ H fun J H1=>∀ acc,H1 acc=none→∀ pins fp s Hc,j7n J (g pins fp s Hc) (ts pins fp s Hc) (te pins fp s Hc) acc (cSt own js σ) H1 fun H'=>Q (.ref acc) H'):jk4 wi own js g ts te σ H Q:=q
def j9j (ts:List TT) (te:TE) (Pv:List V→Hp→Prop) (ys:List V) (H:Hp) (σ2:St) (H2:Hp):Prop :=
 ∀ (Y:V→Hp→Prop) (N:Hp→Prop),(∀ y H',Ext H H'→Pv (ys++[y]) H'→Y y H')→(∀ H',Ext H H'→Pv ys H'→N H')→j8f ts σ2 H2 fun b H3=>if b=true then te σ2 H3 Y else N H3
theorem j3e {J:It}{g:TG}{σ0:St} (n:Nat) (hz:n≤1000000) (hn:H1 acc=none) (Sv:St→Prop) (Pv:Nat→List V→Hp→Prop) (s0:Sv σ0) (h0:Pv 0 [] H1) (kp:∀ i ys H H',Kp H H'→Pv i ys H→Pv i ys H')
  (hgo:∀ i H,i < n→Ext H1 H→J.go i H) (hst:∀ H,Ext H1 H→J.stop n H) (len:∀ i ys H,i≤n→Pv i ys H→ys.length≤i)
  (turn:∀ i σ ys H x H' (G:St→Hp→Prop),i < n→Ext H1 H→Sv σ→Pv i ys H→J.yld i H x H'→(∀ σ2 H2,Sv σ2→j9j ts te (Pv (i+1)) ys H σ2 H2→G σ2 H2)→g x σ H' G)
  (fin:∀ ys H,Ext H1 H→H acc=some (.lst ys)→Pv n ys H→R H):j7n J g ts te acc σ0 H1 R:=by
 have e0:Ext H1 (upd H1 acc (accO acc [])):=j1e hn
 refine⟨fun i m σ ys H=>m=n-i∧i≤n∧Ext H1 H∧Sv σ∧Pv i ys H,⟨n,by omega,Nat.zero_le _,e0,s0,kp _ _ _ _ e0.kp h0⟩,?_⟩
 rintro i m σ ys H ⟨rfl,hi,e,sv,pv⟩ ha
 by_cases hlt:i < n
 ·refine .inr ⟨hgo i H hlt e,fun x H' y=>turn i σ ys H x H' _ hlt e sv pv y fun σ2 H2 s2 q2=>?_⟩
  refine q2 _ _ (fun y H4 e4 p4=>?_) fun H3 e3 p3=>?_
  ·have a4:H4 acc=some (accO acc ys):=e4 _ _ ha
   have z:ys.length < sizeLine:=by have:=len _ _ _ hi pv;rw[sizeLine_eq];omega
   refine⟨a4,z,n-(i+1),by omega,rfl,hlt,fun b o hb=>?_,s2,kp _ _ _ _ (jgm a4 rfl) p4⟩
   rw[j0e (j04 hb hn)]
   exact e4 _ _ (e _ _ hb)
  ·exact⟨e3 _ _ ha,n-(i+1),by omega,rfl,hlt,e.tr e3,s2,p3⟩
 ·have hn':i=n:=by omega
  subst hn'
  refine .inl ⟨hst H e,fin ys _ (fun b o hb=>?_) j0a (kp _ _ _ _ (jgm ha rfl) pv)⟩
  rw[j0e (j04 hb hn)]
  exact e _ _ hb
theorem j7p {a:Addr}{u:Option V} (hx:SqL K H1 a xs) (hz:xs.length≤1000000) (hn:H1 acc=none) (Pv:Nat→List V→Hp→Prop) (h0:Pv 0 [] H1) (kp:∀ i ys H H',Kp H H'→Pv i ys H→Pv i ys H') (len:∀ i ys H,i≤xs.length→Pv i ys H→ys.length≤i)
  (turn:∀ i x ys H,xs[i]?=some x→Ext H1 H→Pv i ys H→j9j ts te (Pv (i+1)) ys H (some x :: fr) H)
  (fin:∀ ys H,Ext H1 H→H acc=some (.lst ys)→Pv xs.length ys H→R H):j7n (Itl K a) (j7a 0) ts te acc (u :: fr) H1 R:=by
 refine j3e xs.length hz hn (fun σ=>∃ u,σ=u :: fr) Pv ⟨u,rfl⟩ h0 kp (fun i H hi e=>⟨xs,xs[i],e.seqL hx,List.getElem?_eq_getElem hi⟩) (fun H e=>⟨xs,e.seqL hx,Nat.le_refl _⟩) len ?_ fin
 rintro i σ ys H x H' G hi e ⟨u,rfl⟩ pv ⟨rfl,y⟩ hG
 have:=y xs (e.seqL hx)
 exact hG _ _ ⟨some x,rfl⟩ (turn i x ys _ this e pv)
theorem j4r {a:Addr}{u:Option V} (hx:SqT K H1 a xs) (hz:xs.length≤1000000) (hn:H1 acc=none) (Pv:Nat→List V→Hp→Prop) (h0:Pv 0 [] H1) (kp:∀ i ys H H',Kp H H'→Pv i ys H→Pv i ys H') (len:∀ i ys H,i≤xs.length→Pv i ys H→ys.length≤i)
  (turn:∀ i x ys H,xs[i]?=some x→Ext H1 H→Pv i ys H→j9j ts te (Pv (i+1)) ys H (some x :: fr) H)
  (fin:∀ ys H,Ext H1 H→H acc=some (.lst ys)→Pv xs.length ys H→R H):j7n (Itt K a) (j7a 0) ts te acc (u :: fr) H1 R:=by
 refine j3e xs.length hz hn (fun σ=>∃ u,σ=u :: fr) Pv ⟨u,rfl⟩ h0 kp (fun i H hi e=>⟨xs,xs[i],e.seqT hx,List.getElem?_eq_getElem hi⟩) (fun H e=>⟨xs,e.seqT hx,Nat.le_refl _⟩) len ?_ fin
 rintro i σ ys H x H' G hi e ⟨u,rfl⟩ pv ⟨rfl,y⟩ hG
 have:=y xs (e.seqT hx)
 exact hG _ _ ⟨some x,rfl⟩ (turn i x ys _ this e pv)
theorem j2m {lo:Int}{n:Nat}{u:Option V} (hz:n≤1000000) (hn:H1 acc=none) (Pv:Nat→List V→Hp→Prop) (h0:Pv 0 [] H1) (kp:∀ i ys H H',Kp H H'→Pv i ys H→Pv i ys H') (len:∀ i ys H,i≤n→Pv i ys H→ys.length≤i)
  (turn:∀ i ys H,i < n→Ext H1 H→Pv i ys H→j9j ts te (Pv (i+1)) ys H (some (.int (lo+i)) :: fr) H)
  (fin:∀ ys H,Ext H1 H→H acc=some (.lst ys)→Pv n ys H→R H):j7n (Itr lo n) (j7a 0) ts te acc (u :: fr) H1 R:=by
 refine j3e n hz hn (fun σ=>∃ u,σ=u :: fr) Pv ⟨u,rfl⟩ h0 kp (fun i H hi e=>hi) (fun H e=>Nat.le_refl _) len ?_ fin
 rintro i σ ys H x H' G hi e ⟨u,rfl⟩ pv ⟨rfl,rfl⟩ hG
 exact hG _ _ ⟨_,rfl⟩ (turn i ys _ hi e pv)
end
def ItA (b:Bool) (h:Heap) (it l:Addr) (k:Nat):Prop:=match b with | false=>h.IsListIter it l k | true=>h.IsTupleIter it l k
def SqA (b:Bool) (h:Heap) (l:Addr) (xs:Array Value):Prop:=match b with | false=>h.IsList l xs | true=>h.IsTuple l xs
theorem ItA.ex {b:Bool}{h:Heap}{it l:Addr}{k:Nat} (x:ItA b h it l k):∃ o,h.get? it=some o∧∀ v,o.data≠.cell v:=by
 cases b <;> (obtain⟨o,e,_,d⟩:=x;exact⟨o,e,fun v z=>by rw[d] at z;cases z⟩)
theorem ItA.at {b:Bool}{h h':Heap}{it l:Addr}{k:Nat} (x:ItA b h it l k) (f:∀ o,h.get? it=some o→h'.get? it=some o):ItA b h' it l k:=by
 cases b <;> (obtain⟨o,e,r⟩:=x;exact⟨o,f o e,r⟩)
theorem SqA.at {b:Bool}{h h':Heap}{l:Addr}{xs:Array Value} (x:SqA b h l xs) (f:∀ o,h.get? l=some o→h'.get? l=some o):SqA b h' l xs:=by
 cases b <;> (obtain⟨o,e,r⟩:=x;exact⟨o,f o e,r⟩)
theorem SqA.lt {b:Bool}{h:Heap}{l:Addr}{xs:Array Value} (x:SqA b h l xs):l < h.objs.size:=by
 cases b <;> (obtain⟨o,e,_⟩:=x;exact Heap.lt_size e)
theorem ItA.lt {b:Bool}{h:Heap}{it l:Addr}{k:Nat} (x:ItA b h it l k):it < h.objs.size:=by
 obtain⟨o,e,_⟩:=x.ex;exact Heap.lt_size e
section
variable {prog:Program}{w:World}{A:Around}{E:Value→Shared→Prop}{s:Shared}
theorem j9k {it l:Addr}{k:Nat}{xs:Array Value}{x:Value}{Q:Value→Shared→Prop} (i0:s.heap.IsTupleIter it l k) (l0:s.heap.IsTuple l xs) (hx:xs[k]?=some x)
  (q:∀ h',h'.IsTupleIter it l (k+1)→Heap.SameBut it s.heap h'→Q x { s with heap:=h' }):wpAny (model prog w) A (Builtin.SmallTypes.nextOf (.ref it)) Q E s:=by
 obtain⟨oi,ei,ci,di⟩:=id i0
 obtain⟨ol,el,_,nl,dl⟩:=l0
 unfold Builtin.SmallTypes.nextOf
 refine wpAny_bind (wpAny_callSpecial?_slot (name:=Str.ofString "__next__") i0.typeIs F.slot_tuple_iterator_next (wpAny_call_entry F.slot_tuple_iterator_next i0.typeIs F.entry_tuple_iterator_next ?_ (F.args_tuple_iterator_next_1 _)))
 show wpAny _ _ (field (.ref it) 0 >>= _) _ _ _;refine wpAny_bind (wpAny_field ei di (x:=.ref l) rfl ?_)
 show wpAny _ _ (if (Value.ref l == Value.none)=true then _ else _) _ _ _;rw[if_neg (show ¬ ((Value.ref l == Value.none)=true) from fun z=>Bool.false_ne_true z)]
 show wpAny _ _ (field (.ref it) 1 >>= _) _ _ _;refine wpAny_bind (wpAny_field ei di (x:=.int k 0) rfl ?_)
 show wpAny _ _ (seqItems? (.ref l) >>= _) _ _ _;refine wpAny_bind (wpAny_seqItems el dl ?_)
 simp only[Int.toNat_natCast,hx];refine wpAny_bind (wpAny_setField ei di (by simp) (wpAny_pure ⟨x,rfl,wpAny_pure (q _ ⟨_,Heap.get?_update_self _ ei (Obj.isFreed_of_fields (Obj.data_mapFields di _)),(Obj.cls_mapFields ..).trans ci,?_⟩ (Heap.SameBut.update ..))⟩))
 rw[Obj.data_mapFields di];simp[rawInt]
theorem jbm {it l:Addr}{k:Nat}{xs:Array Value}{Q:Value→Shared→Prop} (hh:A.handled=none) (i0:s.heap.IsTupleIter it l k) (l0:s.heap.IsTuple l xs) (hx:xs[k]?=none)
  (q:∀ h' e,Heap.ExtBut it s.heap h'→(∃ o,h'.get? e=some o∧o.cls=.type "StopIteration")→E (.ref e) { s with heap:=h' }):wpAny (model prog w) A (Builtin.SmallTypes.nextOf (.ref it)) Q E s:=by
 obtain⟨oi,ei,ci,di⟩:=id i0
 obtain⟨ol,el,_,nl,dl⟩:=l0
 unfold Builtin.SmallTypes.nextOf
 refine wpAny_bind (wpAny_callSpecial?_slot (name:=Str.ofString "__next__") i0.typeIs F.slot_tuple_iterator_next (wpAny_call_entry F.slot_tuple_iterator_next i0.typeIs F.entry_tuple_iterator_next ?_ (F.args_tuple_iterator_next_1 _)))
 show wpAny _ _ (field (.ref it) 0 >>= _) _ _ _;refine wpAny_bind (wpAny_field ei di (x:=.ref l) rfl ?_)
 show wpAny _ _ (if (Value.ref l == Value.none)=true then _ else _) _ _ _;rw[if_neg (show ¬ ((Value.ref l == Value.none)=true) from fun z=>Bool.false_ne_true z)]
 show wpAny _ _ (field (.ref it) 1 >>= _) _ _ _;refine wpAny_bind (wpAny_field ei di (x:=.int k 0) rfl ?_)
 show wpAny _ _ (seqItems? (.ref l) >>= _) _ _ _;refine wpAny_bind (wpAny_seqItems el dl ?_)
 simp only[Int.toNat_natCast,hx];refine wpAny_bind (wpAny_rule (wpAny_bind (wpAny_setField ei di (by simp) ?_)))
 show wpAny _ _ (newExc (.type "StopIteration") [] >>= _) _ _ _;refine wpAny_bind ?_;simp only[newExc,newTuple]
 refine wpAny_bind (wpAny_newObj_type ?_ (by size_fits));refine wpAny_bind (m:=firstArgMember _ _) (wpAny_of_eq (a:=Value.none) (by first | rfl | (simp only[firstArgMember];rfl)) ?_)
 refine wpAny_newObj_type ?_ (by size_fits);simp only[raiseNew];refine wpAny_bind (wpAny_handled ?_)
 first | rw[show A.in1.handled=none from hh] | rw[hh]
 refine wpAny_bind (wpAny_pure (wpAny_throw ?_));exact q _ _ (((Heap.SameBut.update ..).extBut.push _).push _) ⟨_,Heap.get?_push_size _ rfl,rfl⟩
theorem j2n {b:Bool}{it l:Addr}{k:Nat}{xs:Array Value}{x:Value}{Q:Value→Shared→Prop} (i0:ItA b s.heap it l k) (l0:SqA b s.heap l xs) (hx:xs[k]?=some x)
  (q:∀ h',ItA b h' it l (k+1)→Heap.SameBut it s.heap h'→Q x { s with heap:=h' }):wpAny (model prog w) A (Builtin.SmallTypes.nextOf (.ref it)) Q E s:=by
 cases b
 ·exact wpAny_nextOf_list_item i0 l0 hx q
 ·exact j9k i0 l0 hx q
theorem j4s {b:Bool}{it l:Addr}{k:Nat}{xs:Array Value}{Q:Value→Shared→Prop} (hh:A.handled=none) (i0:ItA b s.heap it l k) (l0:SqA b s.heap l xs) (hx:xs[k]?=none)
  (q:∀ h' e,Heap.ExtBut it s.heap h'→(∃ o,h'.get? e=some o∧o.cls=.type "StopIteration")→E (.ref e) { s with heap:=h' }):wpAny (model prog w) A (Builtin.SmallTypes.nextOf (.ref it)) Q E s:=by
 cases b
 ·exact wpAny_nextOf_list_end hh i0 l0 hx q
 ·exact jbm hh i0 l0 hx q
theorem jbn {c d:Bool}{z TI TO i1 i2 l1 l2:Addr}{k:Nat}{xs ys:Array Value}{x y p q:Value}{Q:Option Value→Shared→Prop} (D:ZipApart z TI TO i1 i2 l1 l2)
  (hz:IsZip s.heap z TI TO .none) (hI:IsPair s.heap TI (.ref i1) (.ref i2)) (hO:IsPair s.heap TO p q) (a1:ItA c s.heap i1 l1 k) (a2:ItA d s.heap i2 l2 k) (b1:SqA c s.heap l1 xs) (b2:SqA d s.heap l2 ys) (hx:xs[k]?=some x) (hy:ys[k]?=some y)
  (hQ:∀ h',IsZip h' z TI TO (rawInt s.heap.objs.size)→IsPair h' TO x y→ItA c h' i1 l1 (k+1)→ItA d h' i2 l2 (k+1)→IsPair h' s.heap.objs.size x y →
   (∀ e o,e≠z→e≠TO→e≠i1→e≠i2→s.heap.get? e=some o→h'.get? e=some o)→Q (some (.ref s.heap.objs.size)) { s with heap:=h' }):wpAny (model prog w) A (pyNext (.ref z)) Q E s:=by
 have tz:s.TypeIs (.ref z) "zip":=⟨_,hz,rfl⟩
 unfold pyNext
 refine wpAny_bind (wpAny_attempt (wpAny_callSpecial?_slot (name:=Str.ofString "__next__") tz F.slot_zip_next (wpAny_call_entry F.slot_zip_next tz F.entry_zip_next ?_ (F.args_zip_next_1 _))))
 show wpAny _ _ (field (.ref z) 2 >>= _) _ _ _;refine wpAny_bind (wpAny_field hz rfl (x:=.bool false) rfl ?_)
 show wpAny _ _ (field (.ref z) 3 >>= _) _ _ _;refine wpAny_bind (wpAny_field hz rfl (x:=.ref TI) rfl (wpAny_bind (wpAny_seqItems hI rfl ?_)))
 show wpAny _ _ (Builtin.SmallTypes.ownedTupleIsFree (.ref z) >>= _) _ _ _;refine wpAny_bind ?_;unfold Builtin.SmallTypes.ownedTupleIsFree
 refine wpAny_bind (wpAny_field hz rfl (x:=.none) rfl (wpAny_pure ?_));simp only[if_true]
 refine wpAny_bind (wpAny_rule (wpAny_bind (wpAny_field hz rfl (x:=.ref TO) rfl (wpAny_bind (wpAny_setField_rec hz (by simp) fun g1 z1 s1=>?_)))))
 replace z1:IsZip g1 z TI TO .ellipsis:=z1
 refine wpAny_bind ?_;simp only[List.zipIdx_cons,List.zipIdx_nil,List.forIn_cons,List.forIn_nil]
 refine wpAny_bind (wpAny_bind (wpAny_onRaise ?_))
 show wpAny _ _ (Builtin.SmallTypes.nextOf (.ref i1) >>= _) _ _ _
 refine wpAny_bind (j2n (a1.at fun o e=>s1.extBut _ o D.i1z e) (b1.at fun o e=>s1.extBut _ o D.l1z e) hx fun g2 j1 s2=>wpAny_pure ?_)
 have o2:IsPair g2 TO p q:=s2.extBut _ _ D.TOi1 (s1.extBut _ _ D.TOz hO)
 refine wpAny_bind (wpAny_seqItems o2 rfl (wpAny_bind (wpAny_updateSeq_pair o2 fun g3 o3 s3=>wpAny_bind (wpAny_letGo (wpAny_pure ?_)))))
 replace o3:IsPair g3 TO x q:=o3
 refine wpAny_bind (wpAny_bind (wpAny_onRaise ?_))
 show wpAny _ _ (Builtin.SmallTypes.nextOf (.ref i2) >>= _) _ _ _
 refine wpAny_bind (j2n (a2.at fun o e=>s3.extBut _ o D.TOi2.symm (s2.extBut _ o D.i12.symm (s1.extBut _ o D.i2z e))) (b2.at fun o e=>s3.extBut _ o D.l2TO (s2.extBut _ o D.l2i1 (s1.extBut _ o D.l2z e))) hy fun g4 j2 s4=>wpAny_pure ?_)
 have o4:IsPair g4 TO x q:=s4.extBut _ _ D.TOi2 o3
 refine wpAny_bind (wpAny_seqItems o4 rfl (wpAny_bind (wpAny_updateSeq_pair o4 fun g5 o5 s5=>wpAny_bind (wpAny_letGo (wpAny_pure (wpAny_pure ?_))))))
 replace o5:IsPair g5 TO x y:=o5
 refine wpAny_bind (wpAny_seqItems o5 rfl (wpAny_bind (wpAny_newTuple ?_)))
 have n5:g5.objs.size=s.heap.objs.size:=by rw[s5.1,s4.1,s3.1,s2.1,s1.1]
 have z5:IsZip g5 z TI TO .ellipsis:=s5.extBut _ _ D.TOz.symm (s4.extBut _ _ D.i2z.symm (s3.extBut _ _ D.TOz.symm (s2.extBut _ _ D.i1z.symm z1)))
 have k5:∀ e o,e≠z→e≠TO→e≠i1→e≠i2→s.heap.get? e=some o→g5.get? e=some o:=fun e o q1 q2 q3 q4 h=>s5.extBut _ _ q2 (s4.extBut _ _ q4 (s3.extBut _ _ q2 (s2.extBut _ _ q3 (s1.extBut _ _ q1 h))))
 have j5:ItA c g5 i1 l1 (k+1):=j1.at fun o e=>s5.extBut _ o D.TOi1.symm (s4.extBut _ o D.i12 (s3.extBut _ o D.TOi1.symm e))
 have m5:ItA d g5 i2 l2 (k+1):=j2.at fun o e=>s5.extBut _ o D.TOi2.symm e
 have lz:z < g5.objs.size:=Heap.lt_size z5
 show wpAny _ _ (Builtin.SmallTypes.ownedTupleHandOut (.ref z) (.ref g5.objs.size) >>= _) _ _ _;refine wpAny_bind ?_;unfold Builtin.SmallTypes.ownedTupleHandOut
 have z6:IsZip (g5.push { cls:=.type "tuple",data:=.seq #[x,y] }) z TI TO .ellipsis:=Heap.get?_push_of_some _ z5
 refine wpAny_bind (wpAny_setField_rec z6 (by simp) fun g7 z7 s7=>?_)
 replace z7:IsZip g7 z TI TO (rawInt g5.objs.size):=z7
 refine wpAny_setField_rec z7 (by simp) fun g8 z8 s8=>?_
 replace z8:IsZip g8 z TI TO (rawInt g5.objs.size):=z8
 have k8:∀ e o,e≠z→g5.get? e=some o→g8.get? e=some o:=fun e o q1 h=>s8.extBut _ _ q1 (s7.extBut _ _ q1 (Heap.get?_push_of_some _ h))
 have t8:IsPair g8 g5.objs.size x y:=s8.extBut _ _ (Nat.ne_of_gt lz) (s7.extBut _ _ (Nat.ne_of_gt lz) (Heap.get?_push_size _ rfl))
 refine wpAny_pure ⟨_,rfl,wpAny_pure ?_⟩
 rw[n5] at z8 t8
 show Q (some (.ref g5.objs.size)) _
 rw[n5]
 exact hQ g8 z8 (k8 _ _ D.TOz o5) (j5.at fun o e=>k8 _ o D.i1z e) (m5.at fun o e=>k8 _ o D.i2z e) t8 fun e o q1 q2 q3 q4 h=>k8 e o q1 (k5 e o q1 q2 q3 q4 h)
theorem jec {c d:Bool}{z TI TO i1 i2 l1 l2:Addr}{k:Nat}{xs ys:Array Value}{p q:Value}{Q:Option Value→Shared→Prop} (hh:A.handled=none) (D:ZipApart z TI TO i1 i2 l1 l2)
  (hz:IsZip s.heap z TI TO .none) (hI:IsPair s.heap TI (.ref i1) (.ref i2)) (hO:IsPair s.heap TO p q) (a1:ItA c s.heap i1 l1 k) (a2:ItA d s.heap i2 l2 k) (b1:SqA c s.heap l1 xs) (b2:SqA d s.heap l2 ys) (hend:xs[k]?=none∨ys[k]?=none)
  (hQ:∀ h',(∀ e o,e≠z→e≠TO→e≠i1→e≠i2→s.heap.get? e=some o→h'.get? e=some o)→Q none { s with heap:=h' }):wpAny (model prog w) A (pyNext (.ref z)) Q E s:=by
 have tz:s.TypeIs (.ref z) "zip":=⟨_,hz,rfl⟩
 have stopped:∀ {h':Heap}{e:Addr},(∃ o,h'.get? e=some o∧o.cls=.type "StopIteration")→(∀ e o,e≠z→e≠TO→e≠i1→e≠i2→s.heap.get? e=some o→h'.get? e=some o) →
   wpAny (model prog w) A (do if ← isInstance (.ref e) (.type "StopIteration") then pure (none:Option Value) else throw (.ref e)) Q E { s with heap:=h' }:=fun {h' e} ⟨o,ho,hc⟩ hk =>
  wpAny_bind (wpAny_isInstance (T:="StopIteration") (b:=true) ⟨o,ho,hc⟩ isSubtype_stop (wpAny_pure (hQ _ hk)))
 unfold pyNext
 refine wpAny_bind (wpAny_attempt (wpAny_callSpecial?_slot (name:=Str.ofString "__next__") tz F.slot_zip_next (wpAny_call_entry F.slot_zip_next tz F.entry_zip_next ?_ (F.args_zip_next_1 _))))
 show wpAny _ _ (field (.ref z) 2 >>= _) _ _ _;refine wpAny_bind (wpAny_field hz rfl (x:=.bool false) rfl ?_)
 show wpAny _ _ (field (.ref z) 3 >>= _) _ _ _;refine wpAny_bind (wpAny_field hz rfl (x:=.ref TI) rfl (wpAny_bind (wpAny_seqItems hI rfl ?_)))
 show wpAny _ _ (Builtin.SmallTypes.ownedTupleIsFree (.ref z) >>= _) _ _ _;refine wpAny_bind ?_;unfold Builtin.SmallTypes.ownedTupleIsFree
 refine wpAny_bind (wpAny_field hz rfl (x:=.none) rfl (wpAny_pure ?_));simp only[if_true]
 refine wpAny_bind (wpAny_rule (wpAny_bind (wpAny_field hz rfl (x:=.ref TO) rfl (wpAny_bind (wpAny_setField_rec hz (by simp) fun g1 z1 s1=>?_)))))
 replace z1:IsZip g1 z TI TO .ellipsis:=z1
 refine wpAny_bind ?_;simp only[List.zipIdx_cons,List.zipIdx_nil,List.forIn_cons,List.forIn_nil]
 refine wpAny_bind (wpAny_bind (wpAny_onRaise ?_))
 show wpAny _ _ (Builtin.SmallTypes.nextOf (.ref i1) >>= _) _ _ _
 cases hx:xs[k]? with
 | none =>
  refine wpAny_bind (j4s hh (a1.at fun o e=>s1.extBut _ o D.i1z e) (b1.at fun o e=>s1.extBut _ o D.l1z e) hx fun g2 e s2 ⟨oe,he,ce⟩=>?_)
  have z2:IsZip g2 z TI TO .ellipsis:=s2 _ _ D.i1z.symm z1
  have ez:e≠z:=fun y=>by subst y;rw[z2] at he;cases he;simp at ce
  exact wpAny_setField_rec z2 (by simp) fun g3 _ s3=>stopped ⟨oe,s3.extBut _ _ ez he,ce⟩ fun e o q1 _ q3 _ h=>s3.extBut _ _ q1 (s2 _ _ q3 (s1.extBut _ _ q1 h))
 | some x =>
  have hy:ys[k]?=none:=hend.resolve_left (by rw[hx];simp)
  refine wpAny_bind (j2n (a1.at fun o e=>s1.extBut _ o D.i1z e) (b1.at fun o e=>s1.extBut _ o D.l1z e) hx fun g2 j1 s2=>wpAny_pure ?_)
  have o2:IsPair g2 TO p q:=s2.extBut _ _ D.TOi1 (s1.extBut _ _ D.TOz hO)
  refine wpAny_bind (wpAny_seqItems o2 rfl (wpAny_bind (wpAny_updateSeq_pair o2 fun g3 o3 s3=>wpAny_bind (wpAny_letGo (wpAny_pure ?_)))))
  refine wpAny_bind (wpAny_bind (wpAny_onRaise ?_))
  show wpAny _ _ (Builtin.SmallTypes.nextOf (.ref i2) >>= _) _ _ _
  refine wpAny_bind (j4s hh (a2.at fun o e=>s3.extBut _ o D.TOi2.symm (s2.extBut _ o D.i12.symm (s1.extBut _ o D.i2z e))) (b2.at fun o e=>s3.extBut _ o D.l2TO (s2.extBut _ o D.l2i1 (s1.extBut _ o D.l2z e))) hy fun g4 e s4 ⟨oe,he,ce⟩=>?_)
  have z4:IsZip g4 z TI TO .ellipsis:=s4 _ _ D.i2z.symm (s3.extBut _ _ D.TOz.symm (s2.extBut _ _ D.i1z.symm z1))
  have ez:e≠z:=fun y=>by subst y;rw[z4] at he;cases he;simp at ce
  exact wpAny_setField_rec z4 (by simp) fun g5 _ s5=>stopped ⟨oe,s5.extBut _ _ ez he,ce⟩ fun e o q1 q2 q3 q4 h=>s5.extBut _ _ q1 (s4 _ _ q4 (s3.extBut _ _ q2 (s2.extBut _ _ q3 (s1.extBut _ _ q1 h))))
def itO (b:Bool) (l:Addr):Obj:={ cls:=.type (if b then "tuple_iterator" else "list_iterator"),data:=.fields #[.ref l,.int 0 0] }
theorem iterA {b:Bool}{l:Addr}{xs:Array Value}{Q:Value→Shared→Prop} (h:SqA b s.heap l xs) (q:Q (.ref s.heap.objs.size) { s with heap:=s.heap.push (itO b l) }):wpAny (model prog w) A (pyIter (.ref l)) Q E s:=by
 cases b
 ·exact wpAny_pyIter_list h q
 ·exact wpAny_pyIter_tuple h q
theorem jed {b:Bool}{l it:Addr}{h:Heap} (e:h.get? it=some (itO b l)):ItA b h it l 0:=by
 cases b <;> exact⟨_,e,rfl,rfl⟩
abbrev zh1 (c:Bool) (h:Heap) (l1:Addr):Heap:=h.push (itO c l1)
abbrev zh2 (c d:Bool) (h:Heap) (l1 l2:Addr):Heap:=(zh1 c h l1).push (itO d l2)
abbrev zh3 (c d:Bool) (h:Heap) (l1 l2:Addr):Heap:=(zh2 c d h l1 l2).push { cls:=.type "tuple",data:=.seq #[.ref h.objs.size,.ref (zh1 c h l1).objs.size] }
abbrev zh4 (c d:Bool) (h:Heap) (l1 l2:Addr):Heap:=(zh3 c d h l1 l2).push { cls:=.type "tuple",data:=.seq #[.none,.none] }
abbrev zh5 (c d:Bool) (h:Heap) (l1 l2:Addr):Heap:=(zh4 c d h l1 l2).push { cls:=.type "zip",data:=.fields #[.none,.bool false,.bool false,.ref (zh2 c d h l1 l2).objs.size,.ref (zh3 c d h l1 l2).objs.size] }
theorem jee (c d:Bool) (l1 l2:Addr) (xs ys:Array Value):Meets (Builtin.«zip.__new__» ⟨[.type "zip",.ref l1,.ref l2],[]⟩) (fun _ R s=>SqA c s.heap l1 xs∧SqA d s.heap l2 ys∧R (.ok (.ret (.ref (zh4 c d s.heap l1 l2).objs.size))) { s with heap:=zh5 c d s.heap l1 l2 }) :=
 .of_wp fun prog w A R s h=>by
  obtain⟨hp,g,dd,tk,os⟩:=s
  obtain⟨m1,m2,h⟩:=h
  have hsub:=PySem.sub_zip
  have M1:SqA c (Shared.heap ⟨hp,g,dd,tk,os⟩) l1 xs:=m1
  have M2:SqA d (Shared.heap ⟨hp.push (itO c l1),g,dd,tk,os⟩) l2 ys:=m2.at fun o e=>Heap.get?_push_of_some _ e
  wp_walk using iterA M1,iterA M2
  exact⟨_,rfl,h⟩
theorem jbo {c d:Bool}{l1 l2:Addr}{xs ys:Array Value}{Q:Value→Shared→Prop} (m1:SqA c s.heap l1 xs) (m2:SqA d s.heap l2 ys)
  (h:∀ h',IsZip h' (s.heap.objs.size+4) (s.heap.objs.size+2) (s.heap.objs.size+3) .none→IsPair h' (s.heap.objs.size+2) (.ref s.heap.objs.size) (.ref (s.heap.objs.size+1)) →
   IsPair h' (s.heap.objs.size+3) .none .none→ItA c h' s.heap.objs.size l1 0→ItA d h' (s.heap.objs.size+1) l2 0→(∀ e o,s.heap.get? e=some o→h'.get? e=some o)→Q (.ref (s.heap.objs.size+4)) { s with heap:=h' }) :
  wpAny (model prog w) A (call (.type "zip") [.ref l1,.ref l2]) Q E s:=by
 refine callType_new F.called_zip (by decide) (F.typeCall_zip_2 _ _) (F.newCall_zip_2 _ _) (fun obj=>F.args_object_init_3 obj _ _) F.entry_zip_new (jee c d l1 l2 xs ys) ⟨m1,m2,?_⟩
 have n1:(zh1 c s.heap l1).objs.size=s.heap.objs.size+1:=Heap.size_push ..
 have n2:(zh2 c d s.heap l1 l2).objs.size=s.heap.objs.size+2:=by rw[Heap.size_push,n1]
 have n3:(zh3 c d s.heap l1 l2).objs.size=s.heap.objs.size+3:=by rw[Heap.size_push,n2]
 have n4:(zh4 c d s.heap l1 l2).objs.size=s.heap.objs.size+4:=by rw[Heap.size_push,n3]
 have up1:∀ {h:Heap}{o u:Obj}{e:Addr},h.get? e=some u→(h.push o).get? e=some u:=fun q=>Heap.get?_push_of_some _ q
 have g5:(zh5 c d s.heap l1 l2).get? (zh4 c d s.heap l1 l2).objs.size=some _:=Heap.get?_push_size _ rfl
 have g4:(zh5 c d s.heap l1 l2).get? (zh3 c d s.heap l1 l2).objs.size=some _:=up1 (Heap.get?_push_size _ rfl)
 have g3:(zh5 c d s.heap l1 l2).get? (zh2 c d s.heap l1 l2).objs.size=some _:=up1 (up1 (Heap.get?_push_size _ rfl))
 have g2:(zh5 c d s.heap l1 l2).get? (zh1 c s.heap l1).objs.size=some (itO d l2):=up1 (up1 (up1 (Heap.get?_push_size _ (by cases d <;> rfl))))
 have g1:(zh5 c d s.heap l1 l2).get? s.heap.objs.size=some (itO c l1):=up1 (up1 (up1 (up1 (Heap.get?_push_size _ (by cases c <;> rfl)))))
 show _∧_
 rw[n2,n3,n4] at g5
 rw[n1,n2] at g3
 rw[n3] at g4
 rw[n1] at g2
 rw[n4]
 exact⟨⟨_,g5,rfl⟩,h _ g5 g3 g4 (jed g1) (jed g2) fun e o q=>up1 (up1 (up1 (up1 (up1 q))))⟩
end
def SqE (K:PySem.W.Frag) (H:Hp) (a:Addr) (xs:List V):Bool→Prop
 | false=>SqL K H a xs
 | true=>SqT K H a xs
theorem Inv.sqe {X:Cx}{pins:List (Addr × Obj)}{σ:St}{H:Hp}{s:Shared}{a:Addr}{xs:List V}{b:Bool} (I:Inv X pins σ H s) (h:SqE X.K H a xs b):∃ its:List Value,Vals xs its∧SqA b s.heap a its.toArray∧xs.length≤sizeLine:=by
 cases b
 ·obtain⟨its,r,p,z⟩:=I.list h;exact⟨its,r,p.isList,z⟩
 ·obtain⟨its,r,p,z⟩:=I.tuple h;exact⟨its,r,p,z⟩
theorem Inv.sqe_inj {X:Cx}{pins:List (Addr × Obj)}{σ:St}{H:Hp}{s:Shared}{a:Addr}{xs ys:List V}{b:Bool} (I:Inv X pins σ H s) (h:SqE X.K H a xs b) (h':SqE X.K H a ys b):xs=ys:=by
 cases b
 ·exact I.list_inj h h'
 ·exact I.tuple_inj h h'
def Itz2 (K:PySem.W.Frag) (c d:Bool) (p q:Addr):It :=
 ⟨fun i H=>∃ xs ys,SqE K H p xs c∧SqE K H q ys d∧i < xs.length∧i < ys.length,
   fun i H x H'=>∃ r u v,H r=none∧x=.ref r∧H'=upd H r (.tup [u,v])∧∀ xs ys,SqE K H p xs c→SqE K H q ys d→xs[i]?=some u∧ys[i]?=some v,
   fun i H=>∃ xs ys,SqE K H p xs c∧SqE K H q ys d∧(xs.length≤i∨ys.length≤i)⟩
def zst (c d:Bool) (z TI TO i1 i2 l1 l2:Addr) (i:Nat) (h:Heap):Prop:=IsZip h z TI TO .none∧IsPair h TI (.ref i1) (.ref i2)∧(∃ a b,IsPair h TO a b)∧ItA c h i1 l1 i∧ItA d h i2 l2 i
theorem jbp {P:Program}{w:World}{K:PySem.W.Frag}{es:List Expr}{kx:Nat}{tp:Pos}{cc dd:Bool}{z TI TO i1 i2 l1 l2:Addr} (D:ZipApart z TI TO i1 i2 l1 l2) :
  Turn P w K (.Tuple es kx tp) (Itz2 K cc dd l1 l2) [z,TI,TO,i1,i2] z (zst cc dd z TI TO i1 i2 l1 l2) where
 mem:=by simp
 obj:=fun i h st b hb=>by
  obtain⟨hz,hTI,⟨a,c,hTO⟩,s1,s2⟩:=st
  simp only[List.mem_cons,List.mem_nil_iff,or_false] at hb
  rcases hb with rfl | rfl | rfl | rfl | rfl
  ·exact⟨_,hz,fun v q=>by cases q⟩
  ·exact⟨_,hTI,fun v q=>by cases q⟩
  ·exact⟨_,hTO,fun v q=>by cases q⟩
  ·exact s1.ex
  ·exact s2.ex
 keep:=fun i h h' st k=>by
  obtain⟨hz,hTI,⟨a,c,hTO⟩,s1,s2⟩:=st
  exact⟨k z (by simp) _ hz,k TI (by simp) _ hTI,⟨a,c,k TO (by simp) _ hTO⟩,s1.at fun o e=>k i1 (by simp) o e,s2.at fun o e=>k i2 (by simp) o e⟩
 item:=by
  intro X hP hw hK hc i pins s σ H E I hf st hg
  subst hP hw hK
  obtain⟨xs,ys,hx,hy,lx,ly⟩:=hg
  obtain⟨hz,hTI,⟨a,c,hTO⟩,s1,s2⟩:=id st
  obtain⟨us,ru,pu,zu⟩:=I.sqe hx
  obtain⟨ws,rw',pw,zw⟩:=I.sqe hy
  obtain⟨u,eu,r1⟩:=ru.get (List.getElem?_eq_getElem lx)
  obtain⟨v,ev,r2⟩:=rw'.get (List.getElem?_eq_getElem ly)
  refine jbn D hz hTI hTO s1 s2 pu pw (x:=u) (y:=v) (by simpa using eu) (by simpa using ev) fun h1 z1 t1 j1 j2 np kk=>⟨_,rfl,?_⟩
  refine wpAny_letOwnedTupleGo_zip z1 fun h2 z2 sb=>?_
  have nT:s.heap.objs.size≠z:=Nat.ne_of_gt (Heap.lt_size hz)
  have kk2:∀ b o,b∉[z,TI,TO,i1,i2]→s.heap.get? b=some o→h2.get? b=some o:=fun b o hb e=>by
   simp only[List.mem_cons,List.mem_nil_iff,or_false,not_or] at hb
   exact sb.extBut b o hb.1 (kk b o hb.1 hb.2.2.1 hb.2.2.2.1 hb.2.2.2.2 e)
  have np2:IsPair h2 s.heap.objs.size u v:=sb.extBut _ _ nT np
  have I2:=I.turnLaid (t':=s.toks) (a:=s.heap.objs.size) (o:=.tup [xs[i],ys[i]]) kk2 hf (Nat.le_refl _) (show ObjOk X.prog X.w _ h2 _ (.tup [xs[i],ys[i]]) from⟨by show 2≤sizeLine;rw[sizeLine_eq];decide,[u,v],.cons r1 (.cons r2 .nil),⟨⟨_,np2,rfl,0,rfl⟩,_,np2,rfl⟩⟩)
  refine⟨.ref s.heap.objs.size,_,I2,rfl,⟨_,_,_,I.hok.fresh (Nat.le_refl _),rfl,rfl,fun xs' ys' e1 e2=>?_⟩,?_,fun b hb=>?_⟩
  ·rw[I.sqe_inj e1 hx,I.sqe_inj e2 hy]
   exact⟨List.getElem?_eq_getElem lx,List.getElem?_eq_getElem ly⟩
  ·exact⟨z2,sb.extBut _ _ D.TIz (kk TI _ D.TIz D.TITO D.TIi1 D.TIi2 hTI),⟨_,_,sb.extBut _ _ D.TOz t1⟩,j1.at fun o e=>sb.extBut _ o D.i1z e,j2.at fun o e=>sb.extBut _ o D.i2z e⟩
  ·rw[j0e (fun q=>?_)]
   ·exact (hf b hb).1
   ·have lt:b < s.heap.objs.size:=by
     simp only[List.mem_cons,List.mem_nil_iff,or_false] at hb
     rcases hb with rfl | rfl | rfl | rfl | rfl
     ·exact Heap.lt_size hz
     ·exact Heap.lt_size hTI
     ·exact Heap.lt_size hTO
     ·exact s1.lt
     ·exact s2.lt
    exact absurd lt (by rw[q];exact Nat.lt_irrefl _)
 done:=by
  intro X hP hw hK hc i pins s σ H E I hf st hg
  subst hP hw hK
  obtain⟨xs,ys,hx,hy,hl⟩:=hg
  obtain⟨hz,hTI,⟨a,c,hTO⟩,s1,s2⟩:=st
  obtain⟨us,ru,pu,zu⟩:=I.sqe hx
  obtain⟨ws,rw',pw,zw⟩:=I.sqe hy
  have l1:=ru.length
  have l2:=rw'.length
  refine jec (I.ok.hd hc) D hz hTI hTO s1 s2 pu pw ?_ fun h1 kk=>⟨rfl,I.turns (t':=s.toks) (ch:=[z,TI,TO,i1,i2]) (fun b o hb e=>?_) hf⟩
  ·rcases hl with q | q
   ·exact .inl (by simp;omega)
   ·exact .inr (by simp;omega)
  ·simp only[List.mem_cons,List.mem_nil_iff,or_false,not_or] at hb
   exact kk b o hb.1 hb.2.2.1 hb.2.2.2.1 hb.2.2.2.2 e
 self:=fun _ _ _ _ _ st h=>wpAny_pyIter_zip st.1 h
section
variable {X:Cx}
def iZip2 (K:PySem.W.Frag) (ta:TA):TI:=fun σ H R=>ta σ H fun vs H1=>∃ p q xs ys c d,vs=[.ref p,.ref q]∧SqE K H1 p xs c∧SqE K H1 q ys d∧R (Itz2 K c d p q) H1
theorem jgn {es:List Expr}{kx:Nat}{tp:Pos}{a b:Expr}{ta:TA}{p pos:Pos} (hg:Gl X "zip") (hm:X.mg "zip"=none) (ha:PA X [a,b] ta) (hs:starEach [a,b] X.env=[(false,eval a X.env),(false,eval b X.env)]:=by rfl) (hs2:starEach [b] X.env=[(false,eval b X.env)]:=by rfl) :
  PI X (.Tuple es kx tp) (.Call (.Name "zip" p) [a,b] [] pos) (iZip2 X.K ta):=by
 intro pins s σ H R I h
 refine Call_ (j5a I hg hm boot_zip (PyProof.Rows.callWith_type1 (thn (ha pos pins s σ H _ I h) fun us s1 ⟨vs,H1,I1,r1,q1⟩=>?_) (by rw[hs,hs2]) (by rw[hs2];rfl)))
 obtain⟨p1,p2,xs,ys,c,d,e,hx,hy,q⟩:=q1
 subst e
 obtain⟨u,v,rfl,ru,rv⟩:=jfh r1
 cases ru
 cases rv
 obtain⟨i1,ri1,pl1,z1⟩:=I1.sqe hx
 obtain⟨i2,ri2,pl2,z2⟩:=I1.sqe hy
 refine jbo pl1 pl2 fun h' hz hTI hTO j1 j2 hk=>?_
 have I2:Inv X pins σ H1 { s1 with heap:=h' }:=I1.kept (t':=s1.toks) hk
 refine wpAny_pyIter_zip (s:={ s1 with heap:=h' }) hz ⟨_,[s1.heap.objs.size+4,s1.heap.objs.size+2,s1.heap.objs.size+3,s1.heap.objs.size,s1.heap.objs.size+1],_,_,H1,rfl,I2,jbp (zipApart_new pl1.lt pl2.lt),⟨hz,hTI,⟨_,_,hTO⟩,j1,j2⟩,fun b hb=>?_,q⟩
 have hb':s1.heap.objs.size≤b:=by
  simp only[List.mem_cons,List.mem_nil_iff,or_false] at hb
  rcases hb with rfl | rfl | rfl | rfl | rfl <;> omega
 exact I1.fpOk hb' (I1.hok.fresh hb')
end
theorem jef {K:PySem.W.Frag}{p q:Addr}{c d:Bool}{xs ys:List V}{g:TG}{tb:TS}{D:Ends}{σ:St}{H:Hp} (Pv:Nat→St→Hp→Prop) (hl:xs.length=ys.length) (h0:Pv 0 σ H) (hq:∀ i σ H,i≤xs.length→Pv i σ H→SqE K H p xs c∧SqE K H q ys d)
  (hs:∀ i x y σ H r,xs[i]?=some x→ys[i]?=some y→Pv i σ H→H r=none→g (.ref r) σ (upd H r (.tup [x,y])) fun σ2 H2=>tb { D with nx:=Pv (i+1),ct:=Pv (i+1),bk:=D.nx } σ2 H2) (hd:∀ σ H,Pv xs.length σ H→D.nx σ H) :
  ∃ W:Nat→Nat→St→Hp→Prop,(∃ m,W 0 m σ H)∧∀ i m σ H,W i m σ H →
   ((Itz2 K c d p q).stop i H∧D.nx σ H)∨((Itz2 K c d p q).go i H∧∃ N:St→Hp→Prop,(∀ σ' H',N σ' H'→∃ m',m' < m∧W (i+1) m' σ' H')∧∀ x H',(Itz2 K c d p q).yld i H x H'→g x σ H' fun σ2 H2=>tb { D with nx:=N,ct:=N,bk:=D.nx } σ2 H2):=by
 refine⟨fun i m σ H=>m=xs.length-i∧i≤xs.length∧Pv i σ H,⟨xs.length,by simp,Nat.zero_le _,h0⟩,?_⟩
 rintro i m σ H ⟨rfl,hi,pv⟩
 obtain⟨q1,q2⟩:=hq i σ H hi pv
 by_cases hlt:i < xs.length
 ·refine .inr ⟨⟨xs,ys,q1,q2,hlt,by omega⟩,Pv (i+1),fun σ' H' p'=>⟨xs.length-(i+1),by omega,rfl,hlt,p'⟩,fun x H' y=>?_⟩
  obtain⟨r,u,v,n,rfl,rfl,y⟩:=y
  obtain⟨e1,e2⟩:=y xs ys q1 q2
  exact hs i u v σ _ r e1 e2 pv n
 ·have e:i=xs.length:=by omega
  subst e
  exact .inl ⟨⟨xs,ys,q1,q2,.inl (Nat.le_refl _)⟩,hd σ H pv⟩
section
variable {prog:Program}{w:World}{A:Around}{E:Value→Shared→Prop}{s:Shared}
theorem j9l {c:Bool}{e it l:Addr}{k:Nat}{xs:Array Value}{x old:Value}{Q:Option Value→Shared→Prop} (he:IsEnum s.heap e it k old) (a1:ItA c s.heap it l k) (b1:SqA c s.heap l xs) (hx:xs[k]?=some x) (ne:e≠it)
  (hQ:∀ h',IsEnumOut h' e it ((k:Int)+1) x s.heap.objs.size→ItA c h' it l (k+1)→h'.get? s.heap.objs.size=some { cls:=.type "tuple",data:=.seq #[.int k s.toks,x] } →
   (∀ b o,b≠e→b≠it→s.heap.get? b=some o→h'.get? b=some o)→Q (some (.ref s.heap.objs.size)) { s with heap:=h',toks:=s.toks+1 }):wpAny (model prog w) A (pyNext (.ref e)) Q E s:=by
 have te:s.TypeIs (.ref e) "enumerate":=⟨_,he,rfl⟩
 unfold pyNext
 refine wpAny_bind (wpAny_attempt (wpAny_callSpecial?_slot (name:=Str.ofString "__next__") te F.slot_enumerate_next (wpAny_call_entry F.slot_enumerate_next te F.entry_enumerate_next ?_ (F.args_enumerate_next_1 _))))
 obtain⟨hp,gg,dd,tk,os⟩:=s
 show wpAny _ _ (field (.ref e) 2 >>= _) _ _ _;refine wpAny_bind (wpAny_field he rfl (x:=.ref it) rfl (wpAny_bind (j2n a1 b1 hx fun g1 j1 s1=>?_)))
 replace s1:Heap.SameBut it hp g1:=s1
 have e1:IsEnum g1 e it k old:=(s1.2 e ne).trans he
 show wpAny _ _ (field (.ref e) 3 >>= _) _ _ ⟨g1,gg,dd,tk,os⟩;refine wpAny_bind (wpAny_field e1 rfl (x:=rawInt k) rfl ?_)
 show wpAny _ _ (field (.ref e) 4 >>= _) _ _ ⟨g1,gg,dd,tk,os⟩;refine wpAny_bind (wpAny_field e1 rfl (x:=.none) rfl ?_)
 show wpAny _ _ (mkInt k >>= _) _ _ ⟨g1,gg,dd,tk,os⟩;refine wpAny_bind (wpAny_mkInt ?_)
 show wpAny _ _ (setField (.ref e) 3 (rawInt ((k:Int)+1)) >>= _) _ _ ⟨g1,gg,dd,tk+1,os⟩;refine wpAny_bind (wpAny_setField_rec e1 (by simp) fun g2 e2 s2=>?_)
 replace s2:Heap.SameBut e g1 g2:=s2
 replace e2:IsEnum g2 e it ((k:Int)+1) old:=e2
 show wpAny _ _ (setField (.ref e) 4 .none >>= _) _ _ ⟨g2,gg,dd,tk+1,os⟩;refine wpAny_bind (wpAny_setField_rec e2 (by simp) fun g3 e3 s3=>?_)
 replace s3:Heap.SameBut e g2 g3:=s3
 replace e3:IsEnum g3 e it ((k:Int)+1) old:=e3
 show wpAny _ _ (newTuple [.int k tk,x] >>= _) _ _ ⟨g3,gg,dd,tk+1,os⟩;refine wpAny_bind (wpAny_newTuple ?_)
 have n3:g3.objs.size=hp.objs.size:=by rw[s3.1,s2.1,s1.1]
 have le:e < hp.objs.size:=Heap.lt_size he
 have e4:IsEnum (g3.push { cls:=.type "tuple",data:=.seq #[.int k tk,x] }) e it ((k:Int)+1) old:=Heap.get?_push_of_some _ e3
 have t4:(g3.push { cls:=.type "tuple",data:=.seq #[.int k tk,x] }).get? hp.objs.size=some { cls:=.type "tuple",data:=.seq #[.int k tk,x] }:=by rw[← n3];exact Heap.get?_push_size _ rfl
 have k4:∀ b o,b≠e→b≠it→hp.get? b=some o→(g3.push { cls:=.type "tuple",data:=.seq #[.int k tk,x] }).get? b=some o:=fun b o q1 q2 h=>Heap.get?_push_of_some _ (s3.extBut b o q1 (s2.extBut b o q1 (s1.extBut b o q2 h)))
 have j4:ItA c (g3.push { cls:=.type "tuple",data:=.seq #[.int k tk,x] }) it l (k+1):=j1.at fun o h=>Heap.get?_push_of_some _ (s3.extBut _ o ne.symm (s2.extBut _ o ne.symm h))
 show wpAny _ _ (Builtin.SmallTypes.ownedTupleIsFree (.ref e) >>= _) _ _ ⟨g3.push { cls:=.type "tuple",data:=.seq #[.int k tk,x] },gg,dd,tk+1,os⟩
 generalize g3.push { cls:=.type "tuple",data:=.seq #[.int k tk,x] }=g4 at *
 rw[n3]
 refine wpAny_bind ?_;unfold Builtin.SmallTypes.ownedTupleIsFree
 refine wpAny_bind (wpAny_field e4 rfl (x:=.none) rfl (wpAny_pure ?_));simp only[if_true]
 refine wpAny_bind (wpAny_rule (wpAny_bind (wpAny_field e4 rfl (x:=old) rfl (wpAny_bind (wpAny_setField_rec e4 (by simp) fun g5 e5 s5=>?_)))))
 replace s5:Heap.SameBut e g4 g5:=s5
 replace e5:IsEnum g5 e it ((k:Int)+1) x:=e5
 show wpAny _ _ (Builtin.SmallTypes.ownedTupleHandOut (.ref e) (.ref hp.objs.size) >>= _) _ _ ⟨g5,gg,dd,tk+1,os⟩
 refine wpAny_bind ?_;unfold Builtin.SmallTypes.ownedTupleHandOut
 refine wpAny_bind (wpAny_setField_rec e5 (by simp) fun g6 e6 s6=>?_)
 replace s6:Heap.SameBut e g5 g6:=s6
 replace e6:IsEnumOut g6 e it ((k:Int)+1) x hp.objs.size:=e6
 refine wpAny_setField_rec e6 (by simp) fun g7 e7 s7=>?_
 replace s7:Heap.SameBut e g6 g7:=s7
 replace e7:IsEnumOut g7 e it ((k:Int)+1) x hp.objs.size:=e7
 have k7:∀ b o,b≠e→g4.get? b=some o→g7.get? b=some o:=fun b o q h=>s7.extBut b o q (s6.extBut b o q (s5.extBut b o q h))
 exact wpAny_bind (wpAny_letGo (wpAny_pure ⟨_,rfl,wpAny_pure (hQ g7 e7 (j4.at fun o h=>k7 _ o ne.symm h) (k7 _ _ (Nat.ne_of_gt le) t4) fun b o q1 q2 h=>k7 b o q1 (k4 b o q1 q2 h))⟩))
theorem jbq {c:Bool}{e it l:Addr}{k:Nat}{xs:Array Value}{old:Value}{Q:Option Value→Shared→Prop} (hh:A.handled=none) (he:IsEnum s.heap e it k old) (a1:ItA c s.heap it l k) (b1:SqA c s.heap l xs) (hx:xs[k]?=none)
  (hQ:∀ h',Heap.ExtBut it s.heap h'→Q none { s with heap:=h' }):wpAny (model prog w) A (pyNext (.ref e)) Q E s:=by
 have te:s.TypeIs (.ref e) "enumerate":=⟨_,he,rfl⟩
 unfold pyNext
 refine wpAny_bind (wpAny_attempt (wpAny_callSpecial?_slot (name:=Str.ofString "__next__") te F.slot_enumerate_next (wpAny_call_entry F.slot_enumerate_next te F.entry_enumerate_next ?_ (F.args_enumerate_next_1 _))))
 show wpAny _ _ (field (.ref e) 2 >>= _) _ _ _;refine wpAny_bind (wpAny_field he rfl (x:=.ref it) rfl (wpAny_bind (j4s hh a1 b1 hx fun h' y ex ⟨o,ho,hc⟩=>?_)))
 exact wpAny_bind (wpAny_isInstance (T:="StopIteration") (b:=true) ⟨o,ho,hc⟩ isSubtype_stop (wpAny_pure (hQ _ ex)))
theorem jbr (l:Addr) (items:Array Value) (n:Nat) (dct:Option Addr) (sl:Array (Option Value)) :
  Meets (Builtin.«enumerate.__new__» ⟨[.type "enumerate",.ref l],[]⟩) (fun _ R s=>s.heap.get? l=some { cls:=.type "tuple",dict:=dct,data:=.seq items n,slots:=sl } ∧
   R (.ok (.ret (.ref (s.heap.push (itO true l)).objs.size))) { s with heap:=(s.heap.push (itO true l)).push { cls:=.type "enumerate",data:=.fields #[.none,.bool false,.ref s.heap.objs.size,rawInt 0,.none,.none] } }) :=
 .of_wp fun prog w A R s h=>by
  obtain⟨hp,g,d,tk,os⟩:=s
  obtain⟨hl,h⟩:=h
  have hsub:=PySem.sub_enumerate
  have hT:Heap.IsTuple (Shared.heap ⟨hp,g,d,tk,os⟩) l items:=⟨_,hl,rfl,n,rfl⟩
  wp_walk using AutoSeq1.wpAny_loadPart' hl
  refine wpAny_stack_any fun st=>wpAny_pure ?_
  split
  ·rename_i c _ _ _ _ _;cases (c == Value.type "enumerate") <;> (wp_walk using AutoSeq1.wpAny_loadPart' hl,wpAny_pyIter_tuple hT;exact⟨_,rfl,h⟩)
  ·wp_walk using AutoSeq1.wpAny_loadPart' hl,wpAny_pyIter_tuple hT;exact⟨_,rfl,h⟩
theorem j9m {c:Bool}{l:Addr}{xs:Array Value}{Q:Value→Shared→Prop} (b1:SqA c s.heap l xs)
  (h:∀ h',IsEnum h' (s.heap.objs.size+1) s.heap.objs.size 0 .none→ItA c h' s.heap.objs.size l 0→(∀ b o,s.heap.get? b=some o→h'.get? b=some o)→Q (.ref (s.heap.objs.size+1)) { s with heap:=h' }) :
  wpAny (model prog w) A (call (.type "enumerate") [.ref l]) Q E s:=by
 cases c with
 | false=>exact call_enumerate_list b1 fun h' a1 a2 _ a4=>h h' a1 a2 a4
 | true =>
  obtain⟨⟨cl,dct,dt,sl⟩,hl,hc,n,hd⟩:=b1
  replace hc:cl=.type "tuple":=hc
  replace hd:dt=.seq xs n:=hd
  subst hc hd
  refine callType_new F.called_enumerate (by decide) (F.typeCall_enumerate_1 _) (F.newCall_enumerate_1 _) (fun obj=>F.args_object_init_2 obj _) F.entry_enumerate_new (jbr l xs n dct sl) ⟨hl,?_⟩
  have hz:(s.heap.push (itO true l)).objs.size=s.heap.objs.size+1:=Heap.size_push ..
  show _∧_
  rw[hz]
  have he:IsEnum ((s.heap.push (itO true l)).push { cls:=.type "enumerate",data:=.fields #[.none,.bool false,.ref s.heap.objs.size,rawInt 0,.none,.none] }) (s.heap.objs.size+1) s.heap.objs.size 0 .none:=by
   have:=Heap.get?_push_size (s.heap.push (itO true l)) (o:={ cls:=.type "enumerate",data:=.fields #[.none,.bool false,.ref s.heap.objs.size,rawInt 0,.none,.none] }) rfl
   rwa [hz] at this
  exact⟨⟨_,he,rfl⟩,h _ he (jed (b:=true) (Heap.get?_push_of_some _ (Heap.get?_push_size _ rfl))) fun b o x=>Heap.get?_push_of_some _ (Heap.get?_push_of_some _ x)⟩
end
def Ite2 (K:PySem.W.Frag) (c:Bool) (p:Addr):It :=
 ⟨fun i H=>∃ xs,SqE K H p xs c∧i < xs.length,fun i H x H'=>∃ r v,H r=none∧x=.ref r∧H'=upd H r (.tup [.int i,v])∧∀ xs,SqE K H p xs c→xs[i]?=some v,fun i H=>∃ xs,SqE K H p xs c∧xs.length≤i⟩
theorem jbs {P:Program}{w:World}{K:PySem.W.Frag}{es:List Expr}{kx:Nat}{tp:Pos}{cc:Bool}{e it l:Addr} (ne:e≠it) :
  Turn P w K (.Tuple es kx tp) (Ite2 K cc l) [e,it] e (fun i h=>(∃ old,IsEnum h e it i old)∧ItA cc h it l i) where
 mem:=by simp
 obj:=fun i h st b hb=>by
  obtain⟨⟨old,he⟩,s1⟩:=st
  simp only[List.mem_cons,List.mem_nil_iff,or_false] at hb
  rcases hb with rfl | rfl
  ·exact⟨_,he,fun v q=>by cases q⟩
  ·exact s1.ex
 keep:=fun i h h' st k=>by
  obtain⟨⟨old,he⟩,s1⟩:=st
  exact⟨⟨old,k e (by simp) _ he⟩,s1.at fun o q=>k it (by simp) o q⟩
 item:=by
  intro X hP hw hK hc i pins s σ H E I hf st hg
  subst hP hw hK
  obtain⟨xs,hx,lx⟩:=hg
  obtain⟨⟨old,he⟩,s1⟩:=id st
  obtain⟨us,ru,pu,zu⟩:=I.sqe hx
  obtain⟨u,eu,r1⟩:=ru.get (List.getElem?_eq_getElem lx)
  refine j9l he s1 pu (x:=u) (by simpa using eu) ne fun h1 z1 j1 np kk=>⟨_,rfl,?_⟩
  refine wpAny_letOwnedTupleGo_enum z1 fun h2 z2 sb=>?_
  have nT:s.heap.objs.size≠e:=Nat.ne_of_gt (Heap.lt_size he)
  have kk2:∀ b o,b∉[e,it]→s.heap.get? b=some o→h2.get? b=some o:=fun b o hb q=>by
   simp only[List.mem_cons,List.mem_nil_iff,or_false,not_or] at hb
   exact sb.extBut b o hb.1 (kk b o hb.1 hb.2 q)
  have I2:=I.turnLaid (t':=s.toks+1) (a:=s.heap.objs.size) (o:=.tup [.int i,xs[i]]) kk2 hf (Nat.le_refl _) (show ObjOk X.prog X.w _ h2 _ (.tup [.int i,xs[i]]) from⟨by show 2≤sizeLine;rw[sizeLine_eq];decide,[.int i s.toks,u],.cons ⟨_,rfl⟩ (.cons r1 .nil),⟨⟨_,sb.extBut _ _ nT np,rfl,0,rfl⟩,_,sb.extBut _ _ nT np,rfl⟩⟩)
  refine⟨.ref s.heap.objs.size,_,I2,rfl,⟨_,_,I.hok.fresh (Nat.le_refl _),rfl,rfl,fun xs' e1=>?_⟩,⟨⟨_,by simpa using z2⟩,j1.at fun o q=>sb.extBut _ o ne.symm q⟩,fun b hb=>?_⟩
  ·rw[I.sqe_inj e1 hx];exact List.getElem?_eq_getElem lx
  ·have lt:b < s.heap.objs.size:=by
    simp only[List.mem_cons,List.mem_nil_iff,or_false] at hb
    rcases hb with rfl | rfl
    ·exact Heap.lt_size he
    ·exact s1.lt
   rw[j0e (Nat.ne_of_lt lt)];exact (hf b hb).1
 done:=by
  intro X hP hw hK hc i pins s σ H E I hf st hg
  subst hP hw hK
  obtain⟨xs,hx,hl⟩:=hg
  obtain⟨⟨old,he⟩,s1⟩:=st
  obtain⟨us,ru,pu,zu⟩:=I.sqe hx
  have l1:=ru.length
  refine jbq (I.ok.hd hc) he s1 pu (by simp;omega) fun h1 kk=>⟨rfl,I.turns (t':=s.toks) (ch:=[e,it]) (fun b o hb q=>kk b o ?_ q) hf⟩
  simp only[List.mem_cons,List.mem_nil_iff,or_false,not_or] at hb
  exact hb.2
 self:=fun _ _ _ _ _ st h=>let ⟨_,he⟩:=st.1;wpAny_pyIter_enum he h
section
variable {X:Cx}
def iEnum (K:PySem.W.Frag) (ta:TA):TI:=fun σ H R=>ta σ H fun vs H1=>∃ p xs c,vs=[.ref p]∧SqE K H1 p xs c∧R (Ite2 K c p) H1
theorem jgo {es:List Expr}{kx:Nat}{tp:Pos}{a:Expr}{ta:TA}{p pos:Pos} (hg:Gl X "enumerate") (hm:X.mg "enumerate"=none) (ha:PA X [a] ta) (hs:starEach [a] X.env=[(false,eval a X.env)]:=by rfl) :
  PI X (.Tuple es kx tp) (.Call (.Name "enumerate" p) [a] [] pos) (iEnum X.K ta):=by
 intro pins s σ H R I h
 refine Call_ (j5a I hg hm boot_enumerate (PyProof.Rows.callWith_type1 (thn (ha pos pins s σ H _ I h) fun us s1 ⟨vs,H1,I1,r1,q1⟩=>?_) hs rfl))
 obtain⟨p1,xs,c,e,hx,q⟩:=q1
 subst e
 obtain⟨u,rfl,ru⟩:=j8a r1
 cases ru
 obtain⟨i1,ri1,pl1,z1⟩:=I1.sqe hx
 refine j9m pl1 fun h' he j1 hk=>?_
 have I2:Inv X pins σ H1 { s1 with heap:=h' }:=I1.kept (t':=s1.toks) hk
 refine wpAny_pyIter_enum (s:={ s1 with heap:=h' }) he ⟨_,[s1.heap.objs.size+1,s1.heap.objs.size],_,_,H1,rfl,I2,jbs (Nat.ne_of_gt (Nat.lt_succ_self _)),⟨⟨_,he⟩,j1⟩,fun b hb=>?_,q⟩
 have hb':s1.heap.objs.size≤b:=by
  simp only[List.mem_cons,List.mem_nil_iff,or_false] at hb
  rcases hb with rfl | rfl <;> omega
 exact I1.fpOk hb' (I1.hok.fresh hb')
end
section
variable {prog:Program}{w:World}{A:Around}{E:Value→Shared→Prop}{s:Shared}
theorem j9n {b:Bool}{l:Addr}{vs:List Value}{Q:List Value→Shared→Prop} (hl:SqA b s.heap l vs.toArray) (hz:vs.length≤sizeLine)
  (h:Q vs { s with heap:=(s.heap.push (seqObj "list" #[] 0)).update s.heap.objs.size (Obj.mapSeq (·++vs.toArray)) }):wpAny (model prog w) A (collect (.ref l)) Q E s:=by
 cases b with
 | false=>exact collect_list hl h hz
 | true =>
  obtain⟨ob,eb,cb,nb,db⟩:=id hl
  unfold collect;refine wpAny_bind (wpAny_runValue (codeAny_builtin entry_proto_collect' ?_))
  show wpAny _ _ (do again (.builtin "list.__iadd__" ⟨[← newList [],.ref l],[]⟩)) _ _ _;refine wpAny_bind (wpAny_newList (wpAny_pure ⟨Code.quiet_builtin _ (by decide +kernel),codeAny_builtin entry_list_iadd' ?_⟩))
  show wpAny _ _ (Builtin.List.listExtendWith (.ref s.heap.objs.size) (.ref l) (.ref s.heap.objs.size)) _ _ { s with heap:=s.heap.push (seqObj "list" #[] 0) };unfold Builtin.List.listExtendWith
  have eb':(s.heap.push (seqObj "list" #[] 0)).get? l=some ob:=Heap.get?_push_of_some _ eb
  refine wpAny_bind (wpAny_typeOf (T:="tuple") ⟨ob,eb',cb⟩ ?_)
  rw[if_pos (by rw[show (Value.type "tuple" == Value.type "tuple")=true from rfl];simp)]
  refine wpAny_bind (listItems_at eb' db (wpAny_bind (listItems_at (xs:=#[]) (n:=0) (Heap.get?_push_size _ rfl) rfl ?_)));rw[if_neg (by simp)]
  refine wpAny_bind (listUpdate_at (xs:=#[]) (n:=0) (Heap.get?_push_size _ rfl) rfl (wpAny_pure ?_) (Nat.zero_le _) (by show (#[]++vs.toArray).size≤sizeLine+1;simp only[Array.size_append,List.size_toArray,List.length_nil];omega))
  show wpAny (model prog w) A (do let o ← load s.heap.objs.size;match o.data with | .seq xs _=>pure xs.toList | _=>unsupported "internal:collect") Q E { s with heap:=(s.heap.push (seqObj "list" #[] 0)).update s.heap.objs.size (Obj.mapSeq (·++vs.toArray)) }
  refine wpAny_bind (wpAny_load (get?_update_seq (Heap.get?_push_size _ rfl) _) ?_)
  show wpAny _ _ (pure ((#[]:Array Value)++vs.toArray).toList) Q E _;rw[show ((#[]:Array Value)++vs.toArray).toList=vs by simp];exact wpAny_pure h
theorem jgp {b:Bool}{l:Addr}{vs:List Value}{ns:List Int}{Q:Value→Shared→Prop} (hl:SqA b s.heap l vs.toArray) (hz:vs.length≤sizeLine) (hI:IntsAre vs ns) (h64:vs.length < 64)
  (h:∀ (out:Array Value) (ns':List Int),IntsAre out.toList ns'→ns'.Perm ns→ns'.Pairwise (·≤·)→Q (.ref (s.heap.objs.size+1)) { s with heap:=sortedAll s.heap vs out }):wpAny (model prog w) A (call (.builtin "sorted") [.ref l]) Q E s:=by
 refine Calls.call_function_entry kind_sorted plain_sorted entry_sorted (args_sorted1 _) ?_;unfold Builtin.«sorted»
 refine wpAny_bind (m:=checkCount "sorted" 1 1 _) (wpAny_pure (wpAny_bind (j9n hl hz (wpAny_bind (wpAny_newList ?_)))))
 have n1:((s.heap.push (seqObj "list" #[] 0)).update s.heap.objs.size (Obj.mapSeq (·++vs.toArray))).objs.size=s.heap.objs.size+1:=by rw[Heap.size_update,size_push']
 have o1:(((s.heap.push (seqObj "list" #[] 0)).update s.heap.objs.size (Obj.mapSeq (·++vs.toArray))).push (seqObj "list" vs.toArray 0)).get? (s.heap.objs.size+1)=some (seqObj "list" vs.toArray 0):=by rw[← n1];exact Heap.get?_push_size _ rfl
 show wpAny _ _ _ _ _ { s with heap:=((s.heap.push (seqObj "list" #[] 0)).update s.heap.objs.size (Obj.mapSeq (·++vs.toArray))).push (seqObj "list" vs.toArray 0) };rw[n1]
 exact wpAny_bind (wpAny_holding (wpAny_call_entry slot_list_sort ⟨_,o1,rfl⟩ entry_list_sort (list_sort_tree o1 hI h64 fun out ns' a1 a2 a3=>⟨_,rfl,wpAny_pure ⟨_,rfl,h out ns' a1 a2 a3⟩⟩) (args_list_sort _)))
end
section
variable {X:Cx}
def j7q (K:PySem.W.Frag):List V→Hp→VK→Prop:=fun xs H Q=>∃ (p:Addr) (ns:List Int) (c:Bool),xs=[.ref p]∧SqE K H p (ns.map V.int) c∧ns.length < 64∧∀ l (ns':List Int),H l=none→ns'.Perm ns→ns'.Pairwise (·≤·)→Q (.ref l) (upd H l (.lst (ns'.map V.int)))
theorem jgq:CallR X (.builtin "sorted") (j7q X.K):=by
 intro pins s σ H xs us Q I r h
 obtain⟨p,ns,c,rfl,hq,h64,q⟩:=h
 obtain⟨u,rfl,rx⟩:=j8a r
 cases rx
 obtain⟨its,r',pl,hz⟩:=I.sqe hq
 have hi:IntsAre its ns:=j9b r'
 have hlen:=r'.length
 rw[List.length_map] at hlen hz
 refine jgp pl (by omega) hi (by omega) fun out ns' a1 a2 a3=>?_
 obtain⟨e,he⟩:=sortedAll_at s.heap its out
 refine⟨.ref (s.heap.objs.size+1),_,I.laid (t':=s.toks) (fun b o q=>sortedAll_old q) (Nat.le_succ _) (show ObjOk X.prog X.w _ _ _ (.lst (ns'.map V.int)) from⟨by rw[List.length_map,a2.length_eq];exact hz,out.toList,e,j4n a1,by simpa using he⟩),rfl,q _ ns' (I.hok.fresh (Nat.le_succ _)) a2 a3⟩
def rAll (K:PySem.W.Frag):List V→Hp→VK→Prop:=fun xs H Q=>∃ (p:Addr) (bs:List Bool),xs=[.ref p]∧SqL K H p (bs.map V.bl)∧Q (.bl (bs.all id)) H
theorem j9o:∀ {bs:List Bool}{us:List Value},Vals (bs.map V.bl) us→us=bs.map Value.bool
 | [],us,r=>by cases r;rfl
 | b :: bs,us,r=>by
  cases r with
  | cons r1 r2=>rw[j9o r2,show _=Value.bool b from r1];rfl
theorem jbt:∀ bs:List Bool,(List.range bs.length).all (fun i=>bs.getD i true)=bs.all id:=by
 intro bs
 rw[Bool.eq_iff_iff,List.all_eq_true,List.all_eq_true]
 constructor
 ·intro h x hx
  obtain⟨i,hi,rfl⟩:=List.getElem_of_mem hx
  have:=h i (List.mem_range.mpr hi)
  rwa [List.getD_eq_getElem?_getD,List.getElem?_eq_getElem hi] at this
 ·intro h i hi
  have hi':=List.mem_range.mp hi
  rw[List.getD_eq_getElem?_getD,List.getElem?_eq_getElem hi']
  exact h _ (List.getElem_mem hi')
theorem cAll (hc:X.calm=true):CallR X (.builtin "all") (rAll X.K):=by
 intro pins s σ H xs us Q I r h
 obtain⟨p,bs,rfl,hq,q⟩:=h
 obtain⟨u,rfl,rx⟩:=j8a r
 cases rx
 obtain⟨its,r',pl,hz⟩:=I.list hq
 have e:=j9o r'
 subst e
 refine call_all_walk (wpAny_pyIter_list pl.isList ?_)
 have ne:p≠s.heap.objs.size:=by obtain⟨_,e,_⟩:=pl.isList;exact Nat.ne_of_lt (Heap.lt_size e)
 refine⟨s.heap.objs.size,_,_,_,_,_,fun i=>bs.getD i true,rfl,Walks.list (A:=X.A.in1) (I.ok.hd hc) _ p ne (bs.map Value.bool).toArray,⟨⟨_,Heap.get?_push_size _ rfl,rfl,rfl⟩,Heap.IsList.push pl.isList _⟩,fun i v s' Q' E' hv hQ=>?_,fun h' tk hk=>?_⟩
 ·have hv':(bs.map Value.bool)[i]?=some v:=by simpa using hv
  rw[List.getElem?_map] at hv'
  cases e:bs[i]? with
  | none=>rw[e] at hv';cases hv'
  | some b =>
   rw[e] at hv'
   cases hv'
   refine wpAny_truthy_bool ?_
   have:bs.getD i true=b:=by rw[List.getD_eq_getElem?_getD,e];rfl
   have hQ':Q' (bs.getD i true) s':=hQ
   rw[this] at hQ'
   exact hQ'
 ·refine⟨.bl (bs.all id),H,I.kept (t':=tk) fun b o q=>hk b o (by simp;exact Nat.ne_of_lt (Heap.lt_size q)) (Heap.get?_push_of_some _ q),?_,q⟩
  show Value.bool _=Value.bool _
  rw[← jbt bs]
  simp
end
mutual
def D.py:D→PyData
 | .non=>.none | .bl b=>.bool b | .int i=>.int i | .str x=>.str x | .tup l=>.tuple (D.pyL l) | .lst l=>.list (D.pyL l) | .dct=>.dict []
def D.pyL:List D→List PyData
 | []=>[]
 | d :: r=>d.py :: D.pyL r
def D.eqOk:D→Bool
 | .str x=>PyData.strOk x
 | .tup l=>D.eqOkL l
 | .lst l=>D.eqOkL l
 | .dct=>false
 | _=>true
def D.eqOkL:List D→Bool
 | []=>true
 | d :: r=>d.eqOk && D.eqOkL r
end
mutual
theorem D.canLay:∀ d:D,d.eqOk=true→d.py.canLay0=true
 | .non,_=>by simp[D.py,PyData.canLay0]
 | .bl _,_=>by simp[D.py,PyData.canLay0]
 | .int _,_=>by simp[D.py,PyData.canLay0]
 | .str x,h=>by simp only[D.eqOk] at h;simpa[D.py,PyData.canLay0] using h
 | .tup l,h=>by simp only[D.eqOk] at h;simpa[D.py,PyData.canLay0] using D.canLayL l h
 | .lst l,h=>by simp only[D.eqOk] at h;simpa[D.py,PyData.canLay0] using D.canLayL l h
 | .dct,h=>by simp[D.eqOk] at h
theorem D.canLayL:∀ l:List D,D.eqOkL l=true→PyData.canLayAll0 (D.pyL l)=true
 | [],_=>by simp[D.pyL,PyData.canLayAll0]
 | d :: r,h=>by
  simp only[D.eqOkL,Bool.and_eq_true] at h
  simp[D.pyL,PyData.canLayAll0,D.canLay d h.1,D.canLayL r h.2]
theorem D.pyDepth:∀ d:D,d.py.depth≤d.depth+1
 | .non=>by simp[D.py,PyData.depth]
 | .bl _=>by simp[D.py,PyData.depth]
 | .int _=>by simp[D.py,PyData.depth]
 | .str _=>by simp[D.py,PyData.depth]
 | .tup l=>by have:=D.pyDepthL l;simp only[D.py,PyData.depth,D.depth];omega
 | .lst l=>by have:=D.pyDepthL l;simp only[D.py,PyData.depth,D.depth];omega
 | .dct=>by simp[D.py,PyData.depth,PyData.depthKv,D.depth]
theorem D.pyDepthL:∀ l:List D,PyData.depthAll (D.pyL l)≤D.depthL l+1
 | []=>by simp[D.pyL,PyData.depthAll]
 | d :: r=>by have a:=D.pyDepth d;have b:=D.pyDepthL r;simp only[D.pyL,PyData.depthAll,D.depthL];omega
end
section
variable {X:Cx}{pins:List (Addr × Obj)}{σ:St}{H:Hp}{s:Shared}
mutual
theorem j3f (I:Inv X pins σ H s):∀ (d:D) {v:V}{u:Value},Rep H d v→RelV v u→d.eqOk=true→∃ as,Reads s.heap u d.py as
 | .non,v,u,h,r,_=>by unfold Rep at h;subst h;cases (show u=Value.none from r);exact⟨_,.none⟩
 | .bl b,v,u,h,r,_=>by unfold Rep at h;subst h;cases (show u=Value.bool b from r);exact⟨_,.bool b⟩
 | .int i,v,u,h,r,_=>by unfold Rep at h;subst h;obtain⟨t,rfl⟩:=r;exact⟨_,.int i t⟩
 | .str x,v,u,h,r,_=>by unfold Rep at h;subst h;obtain⟨t,rfl⟩:=r;exact⟨_,.str x t⟩
 | .tup l,v,u,h,r,ok=>by
  unfold Rep at h
  obtain⟨p,xs,rfl,hp,hl⟩:=h
  cases (show u=Value.ref p from r)
  obtain⟨its,rv,ht,hz⟩:=I.tuple (SqT.of (K:=X.K) hp)
  obtain⟨as,ra⟩:=readsL_of I l hl rv (by simpa[D.eqOk] using ok)
  obtain⟨o,e,c,n,dt⟩:=ht
  exact⟨as,.tuple e c dt (by simpa using ra)⟩
 | .lst l,v,u,h,r,ok=>by
  unfold Rep at h
  obtain⟨p,xs,rfl,hp,hl⟩:=h
  cases (show u=Value.ref p from r)
  obtain⟨its,rv,ht,hz⟩:=I.list (SqL.of (K:=X.K) hp)
  obtain⟨as,ra⟩:=readsL_of I l hl rv (by simpa[D.eqOk] using ok)
  obtain⟨o,e,c,n,dt⟩:=ht.isList
  exact⟨_,.list e c dt (by simpa using ra)⟩
 | .dct,v,u,h,r,ok=>by simp[D.eqOk] at ok
theorem readsL_of (I:Inv X pins σ H s):∀ (l:List D) {vs:List V}{us:List Value},RepL H l vs→Vals vs us→D.eqOkL l=true→∃ as,ReadsAll s.heap us (D.pyL l) as
 | [],vs,us,h,r,_=>by unfold RepL at h;subst h;cases r;exact⟨_,.nil⟩
 | d :: l,vs,us,h,r,ok=>by
  unfold RepL at h
  obtain⟨x,t,rfl,hd,hl⟩:=h
  simp only[D.eqOkL,Bool.and_eq_true] at ok
  cases r with
  | cons r1 r2 =>
   obtain⟨as,a1⟩:=j3f I d hd r1 ok.1
   obtain⟨bs,b1⟩:=readsL_of I l hl r2 ok.2
   exact⟨_,.cons a1 b1⟩
end
def eqD (a b:D):Bool:=PyData.eqv a.py b.py
def rEqD (neg:Bool):R2:=fun x y H Q=>∃ a b,Rep H a x∧Rep H b y∧a.eqOk=true∧b.eqOk=true∧a.depth≤20∧Q (.bl (if neg then !eqD a b else eqD a b)) H
def rEqU:R2:=fun x y H Q=>rEq x y H Q∨rEqD false x y H Q
def rNeU:R2:=fun x y H Q=>rNe x y H Q∨rEqD true x y H Q
theorem op_eqD {k:Nat} (hr:Room k X.A):OpR X (compareOp .Eq) (rEqD false):=by
 intro pins s σ H x y v u Q I rx ry h
 obtain⟨a,b,ha,hb,oa,ob,hd,q⟩:=h
 obtain⟨as,r1⟩:=j3f I a ha rx oa
 obtain⟨bs,r2⟩:=j3f I b hb ry ob
 have h1:=D.pyDepth a
 exact SeqAt.compareEq_reads r1 r2 (D.canLay a oa) (D.canLay b ob) (by have:=hr.units;omega) ⟨.bl (eqD a b),H,I,rfl,q⟩
theorem oEq {k:Nat} (hr:Room k X.A):OpR X (compareOp .Eq) rEqU:=op_eq.or (op_eqD hr)
end
section
variable {X:Cx}
def jgr (K:PySem.W.Frag):R2:=fun x y H Q=>∃ a b xs ys,x=.ref a∧y=.ref b∧SqT K H a xs∧SqT K H b ys∧xs.length+ys.length≤1000000 ∧
 (xs=[]→Q (.ref b) H)∧(xs≠[]→ys=[]→Q (.ref a) H)∧(xs≠[]→ys≠[]→∀ p,H p=none→Q (.ref p) (upd H p (.tup (xs++ys))))
theorem jeg:OpR X (binaryOp .Add) (jgr X.K):=by
 intro pins s σ H x y v u Q I rx ry h
 obtain⟨a,b,xs,ys,rfl,rfl,ha,hb,hl,q0,q1,q2⟩:=h
 cases rx
 cases ry
 obtain⟨is1,r1,t1,z1⟩:=I.tuple ha
 obtain⟨is2,r2,t2,z2⟩:=I.tuple hb
 have l1:=r1.length
 have l2:=r2.length
 have hz:is1.length+is2.length≤sizeLine:=by rw[sizeLine_eq];omega
 by_cases e:is1=[]
 ·subst e
  have ex:xs=[]:=List.length_eq_zero_iff.mp (by simpa using l1)
  obtain⟨⟨cls,dd,data,sl⟩,ho,hc,n,hd⟩:=id t1
  obtain⟨⟨cls2,dd2,data2,sl2⟩,ho2,hc2,n2,hd2⟩:=id t2
  simp only at hc hd hc2 hd2
  subst hc hd hc2 hd2
  exact concat_meets ⟨_,ho,rfl⟩ ⟨_,ho2,rfl⟩ noFill_tuple_add seq_tuple_add PySem.F.slot_tuple_add PySem.F.entry_tuple_add (PySem.F.args_tuple_add_2 _ _)
   (tuple_addW0 a b _ is2.toArray n n2 dd dd2 sl sl2 (by simp)) ⟨ho,ho2,⟨.ref b,H,I,rfl,q0 ex⟩⟩
 ·have ex:xs≠[]:=fun z=>e (List.length_eq_zero_iff.mp (by rw[← l1,z];rfl))
  refine HT.cat_tup t1 t2 e (fun w=>⟨.ref a,H,I,rfl,q1 ex (List.length_eq_zero_iff.mp (by rw[l2,w];rfl))⟩) (fun w=>?_) hz
  have ey:ys≠[]:=fun z=>w (List.length_eq_zero_iff.mp (by rw[← l2,z];rfl))
  refine⟨.ref s.heap.objs.size,_,I.laid (t':=s.toks) (fun b o e=>Heap.get?_push_of_some _ e) (Nat.le_refl _) (show ObjOk X.prog X.w _ _ _ (.tup (xs++ys)) from⟨by rw[List.length_append];omega,is1++is2,r1.append r2,TupN.new _ _⟩),rfl,q2 ex ey _ (I.hok.fresh (Nat.le_refl _))⟩
def jiq (K:PySem.W.Frag):R2:=fun x y H Q=>(rI0 (fun i j=>.int (i+j)) x y H Q∨rCat x y H Q)∨jgr K x y H Q
theorem oAddV:OpR X (binaryOp .Add) (jiq X.K):=(op_add.or op_cat).or jeg
end
section
variable {K:PySem.W.Frag}{σ:St}{H:Hp}{Q:VK}{D:Ends}
theorem jgs {i j:Int} (q:Q (.int (i+j)) H):jiq K (.int i) (.int j) H Q:=.inl (.inl ⟨i,j,rfl,rfl,q⟩)
theorem r_catL {l b:Addr}{xs zs:List V} (h1:H l=some (.lst xs)) (h2:H b=some (.lst zs)) (hl:xs.length+zs.length≤1000000) (q:∀ p H',H p=none→H' p=some (.lst (xs++zs))→Ext H H'→Q (.ref p) H'):jiq K (.ref l) (.ref b) H Q :=
 .inl (.inr ⟨l,b,xs,zs,rfl,rfl,h1,h2,Nat.le_trans hl (by rw[sizeLine_eq];decide),fun p n=>q p _ n j0a (j1e n)⟩)
theorem r_sl {r:V→Option Int→Option Int→Hp→VK→Prop}{te:TE}{tl th:TO} (q:te σ H fun x H1=>tl σ H1 fun l H2=>th σ H2 fun u H3=>r x l u H3 Q):tSl r te tl th σ H Q:=q
theorem jeh {R:Option Int→Hp→Prop} (q:R none H):jcv σ H R:=q
def rPart (x:V) (R:Option Int→Hp→Prop) (H:Hp):Prop:=∃ i,x=.int i∧R (some i) H
theorem r_part {te:TE}{R:Option Int→Hp→Prop} (q:te σ H fun x H1=>rPart x R H1):tPart te σ H R:=q
theorem jgt {i:Int}{R:Option Int→Hp→Prop} (q:R (some i) H):rPart (.int i) R H:=⟨i,rfl,q⟩
theorem jcz {p:Addr}{xs:List V}{lo hi:Option Int} (h:H p=some (.lst xs)) (q:∀ l H',H l=none→H' l=some (.lst (cutV xs lo hi))→Ext H H'→Q (.ref l) H'):rSlU K (.ref p) lo hi H Q:=.inr ⟨p,xs,rfl,SqL.of h,fun l n=>q l _ n j0a (j1e n)⟩
theorem r_zip2 {ta:TA}{R:It→Hp→Prop} (q:ta σ H fun vs H1=>∃ p q xs ys c d,vs=[.ref p,.ref q]∧SqE K H1 p xs c∧SqE K H1 q ys d∧R (Itz2 K c d p q) H1):iZip2 K ta σ H R:=q
theorem r_enum {ta:TA}{R:It→Hp→Prop} (q:ta σ H fun vs H1=>∃ p xs c,vs=[.ref p]∧SqE K H1 p xs c∧R (Ite2 K c p) H1):iEnum K ta σ H R:=q
theorem jbu {p:Addr}{ns:List Int} (h:H p=some (.lst (ns.map V.int))) (hl:ns.length < 64) (q:∀ l (ns':List Int) H',H l=none→ns'.Perm ns→ns'.Pairwise (·≤·)→H' l=some (.lst (ns'.map V.int))→Ext H H'→Q (.ref l) H'):j7q K [.ref p] H Q :=
 ⟨p,ns,false,rfl,SqL.of h,hl,fun l ns' n a b=>q l ns' _ n a b j0a (j1e n)⟩
theorem jbv {p:Addr}{ns:List Int} (h:H p=some (.tup (ns.map V.int))) (hl:ns.length < 64) (q:∀ l (ns':List Int) H',H l=none→ns'.Perm ns→ns'.Pairwise (·≤·)→H' l=some (.lst (ns'.map V.int))→Ext H H'→Q (.ref l) H'):j7q K [.ref p] H Q :=
 ⟨p,ns,true,rfl,SqT.of h,hl,fun l ns' n a b=>q l ns' _ n a b j0a (j1e n)⟩
theorem jd0 {p:Addr}{bs:List Bool} (h:H p=some (.lst (bs.map V.bl))) (q:Q (.bl (bs.all id)) H):rAll K [.ref p] H Q:=⟨p,bs,rfl,SqL.of h,q⟩
theorem r_eqUI {i j:Int} (q:Q (.bl (decide (i=j))) H):rEqU (.int i) (.int j) H Q:=.inl (r_eqI q)
theorem j0b {i j:Str} (q:Q (.bl (decide (i=j))) H):rEqU (.str i) (.str j) H Q:=.inl (r_eqS q)
theorem jkc {x y:V}{a b:L2.D} (ha:Rep H a x) (hb:Rep H b y) (oa:a.eqOk=true) (ob:b.eqOk=true) (hd:a.depth≤20) (q:Q (.bl (eqD a b)) H):rEqU x y H Q:=.inr ⟨a,b,ha,hb,oa,ob,hd,q⟩
theorem r_inT {p:Addr}{x:V}{xs:List V} (h:H p=some (.tup xs)) (fx:j8c x=true) (fl:xs.all j8c=true) (q:Q (.bl (inV x xs)) H):rInU K false x (.ref p) H Q:=⟨p,xs,rfl,.inr (SqT.of h),fx,fl,q⟩
theorem jei {p:Addr}{x:V}{xs:List V} (h:H p=some (.tup xs)) (fx:j8c x=true) (fl:xs.all j8c=true) (q:Q (.bl (!inV x xs)) H):rInU K true x (.ref p) H Q:=⟨p,xs,rfl,.inr (SqT.of h),fx,fl,q⟩
theorem j27 {te:TE}{Y:V→Hp→Prop}{N:Hp→Prop} (q:te σ H Y):j8f [] σ H fun b H3=>if b=true then te σ H3 Y else N H3:=by
 show (if true=true then te σ H Y else N H)
 rw[if_pos rfl]
 exact q
theorem jej {t:TT}{R:Bool→Hp→Prop} (q:t σ H fun b H1=>if b=true then R true H1 else R false H1):j8f [t] σ H R:=q
end
theorem j9p:∀ ns ms:List Int,PyData.eqvAll (D.pyL (ns.map D.int)) (D.pyL (ms.map D.int))=decide (ns=ms)
 | [],[]=>by simp[D.pyL,PyData.eqvAll]
 | [],_ :: _=>by simp[D.pyL,PyData.eqvAll]
 | _ :: _,[]=>by simp[D.pyL,PyData.eqvAll]
 | a :: r,b :: t=>by
  simp only[List.map_cons,D.pyL,PyData.eqvAll,D.py,PyData.eqv,j9p r t]
  rw[Bool.eq_iff_iff]
  simp
theorem j9q (ns ms:List Int):eqD (.lst (ns.map D.int)) (.lst (ms.map D.int))=decide (ns=ms):=by
 unfold eqD;simp only[D.py,PyData.eqv];exact j9p ns ms
theorem j4t (ns:List Int):D.eqOkL (ns.map D.int)=true:=by
 induction ns with
 | nil=>rfl
 | cons n r ih=>show (D.eqOk (.int n) && D.eqOkL (r.map D.int))=true;rw[ih];rfl
theorem Rep.tupInts {H:Hp}{p:Addr}{ns:List Int} (h:H p=some (.tup (ns.map V.int))):Rep H (.tup (ns.map D.int)) (.ref p):=Rep.tupI h (RepL.ints ns)
theorem Rep.lstInts {H:Hp}{p:Addr}{ns:List Int} (h:H p=some (.lst (ns.map V.int))):Rep H (.lst (ns.map D.int)) (.ref p):=Rep.lstI h (RepL.ints ns)
theorem jek {H:Hp}{Q:VK}{p q:Addr}{ns ms:List Int} (h1:H p=some (.lst (ns.map V.int))) (h2:H q=some (.lst (ms.map V.int))) (k:Q (.bl (decide (ns=ms))) H):rEqU (.ref p) (.ref q) H Q :=
 jkc (Rep.lstInts h1) (Rep.lstInts h2) (j4t _) (j4t _) (by show D.depthL _+1≤20;rw[j4g];decide) (by rw[j9q];exact k)
theorem j9r {ns:List Int}{k:Int} (h0:0≤k) (h1:k < ns.length):atI (ns.map V.int) k=some (.int (ns.getD k.toNat 0)):=by
 refine j18 h0 ?_
 rw[List.getElem?_map,List.getElem?_eq_getElem (by omega),List.getD_eq_getElem?_getD,List.getElem?_eq_getElem (by omega)]
 rfl
theorem j8g {a b c:List Int} (h1:a.Perm c) (h2:b.Perm c) (s1:a.Pairwise (·≤·)) (s2:b.Pairwise (·≤·)):a=b :=
 List.Perm.eq_of_pairwise (fun x y _ _ h1 h2=>Int.le_antisymm h1 h2) s1 s2 (h1.trans h2.symm)
section
variable {X:Cx}
def mn:List Int→Int
 | []=>0
 | [x]=>x
 | x :: y :: r=>min x (mn (y :: r))
end
structure FunD (K:PySem.W.Frag) (x qual:Str) (st:Stmt) (f:Addr) (fd:FuncData) (ds:List Value):Prop where
 ex:∃ (oc:Value) (od:Option Addr) (T:Addr) (kV doc pm:Value) (an:Option Addr) (cdv ct:Value) (osl:Array (Option Value)) (tc:Value) (td:Option Addr) (tn:Nat) (tsl:Array (Option Value)),
  fd=PySem.W.fnOf x qual (j2l st) (j1q st) (j07 st) (.ref T) kV doc pm an cdv ct∧K.lookup f=some ⟨oc,od,.func fd,osl⟩∧PySem.W.codeIn K cdv qual=true∧K.lookup T=some ⟨tc,td,.seq ds.toArray tn,tsl⟩
 kp:PySem.W.keepIn K (.ref f)=true
section
variable {P:Program}{w:World}{K:PySem.W.Frag}{mg:Str→Option Value}{base:Heap}{ds:List Value}
theorem FunD.okU {x qual:Str}{st:Stmt}{f:Addr}{fd:FuncData}{N ps:List Str}{k:Nat}{sp:Sp} (F:FunD K x qual st f fd ds) (S:FnScope N ps (j07 st)) (len:∀ vs H Q E,sp vs H Q E→vs.length=ps.length)
  (hbody:∀ (cdv:Value) (A:Around) (outer:List Env) (s:Shared) (H:Hp) (vs:List V) (Q:VK) (E:XK),Room k (A.deeper (envOfC qual (j07 st) s.heap.objs.size f cdv))→sp vs H Q E →
   ∃ t,PSs (cxOf (CXU P w) P w K mg base N qual (j07 st) f cdv A outer s H E).nox (j1q st) t∧t { nx:=fun _ H'=>Q .non H',rt:=Q } (start N vs) H):FnOk P w K mg base (CXU P w) (k+1) f fd ps sp:=by
 obtain⟨oc,od,T,kV,doc,pm,an,cdv,ct,osl,tc,td,tn,tsl,rfl,lk,hcd,_⟩:=F.ex
 refine jio lk hcd S len fun A outer s H vs Q E hr hsp=>?_
 obtain⟨t,h,q⟩:=hbody cdv A outer s H vs Q E hr hsp
 exact⟨t,h.nox,q⟩
theorem FunD.binds {x qual:Str}{st:Stmt}{f:Addr}{fd:FuncData}{ps:List Str}{es:List Value} (F:FunD K x qual st f fd ds)
  (h:∀ (T:Addr) (kV doc pm:Value) (an:Option Addr) (cdv ct:Value) (us:List Value),(us++es).length=ps.length→∃ k:Option (Array Value)→Sem (List (Str × Value)),bindArgs (PySem.W.fnOf x qual (j2l st) (j1q st) (j07 st) (.ref T) kV doc pm an cdv ct) ⟨us,[]⟩=(seqItems? (.ref T) >>= k)∧k (some ds.toArray)=pure (ps.zip (us++es))):Binds K fd ps es:=by
 obtain⟨oc,od,T,kV,doc,pm,an,cdv,ct,osl,tc,td,tn,tsl,rfl,lk,hcd,hT⟩:=F.ex
 intro s us KX hl
 obtain⟨k,h1,h2⟩:=h T kV doc pm an cdv ct us hl
 exact PySem.W.binds_K (T:=T) KX rfl hT rfl h1 h2
theorem funD_mk {x qual:Str}{st:Stmt}{f T:Addr}{oc tc:Value}{od an td:Option Addr}{osl tsl:Array (Option Value)}{tn:Nat}{kV doc pm cdv ct:Value} (l:K.lookup f=some ⟨oc,od,.func (PySem.W.fnOf x qual (j2l st) (j1q st) (j07 st) (.ref T) kV doc pm an cdv ct),osl⟩)
  (c:PySem.W.codeIn K cdv qual=true) (k:PySem.W.keepIn K (.ref f)=true) (t:K.lookup T=some ⟨tc,td,.seq ds.toArray tn,tsl⟩):FunD K x qual st f (PySem.W.fnOf x qual (j2l st) (j1q st) (j07 st) (.ref T) kV doc pm an cdv ct) ds :=
 ⟨⟨oc,od,T,kV,doc,pm,an,cdv,ct,osl,tc,td,tn,tsl,rfl,l,c,t⟩,k⟩
end
structure IsC (K:PySem.W.Frag) (C B:Addr):Prop where
 ha:PySem.W.findIn K (.ref C) "__class__"=some (some (.builtin "object.__class__"))
 hn:PySem.W.specialIn K (.builtin "object.__class__") "__get__"=some (some (.builtin "getset_descriptor.__get__"))
 htk:PySem.W.takesIn K (.builtin "object.__class__")=some true
 hm:PySem.W.mroIn K C (.type "object")=some true
 ki:PySem.W.kitOne K (.ref C) (.ref B)=some true
theorem jd1 {α:Type}{src:α→V}{l:List α}{i:Nat}{x:V} (h:(l.map src)[i]?=some x):∃ y,l[i]?=some y∧x=src y:=by
 rw[List.getElem?_map] at h
 cases e:l[i]? with
 | none=>rw[e] at h;cases h
 | some n=>rw[e] at h;cases h;exact⟨n,rfl,rfl⟩
section
variable {K:PySem.W.Frag}{α β γ:Type}{te:TE}{acc:Addr}{fr:St}{H1:Hp}{R:Hp→Prop}
theorem jbw (src:α→V) (mk:β→V) (f:α→β) {a:Addr}{u:Option V}{l:List α} (hx:SqL K H1 a (l.map src)) (hz:l.length≤1000000) (hn:H1 acc=none)
  (turn:∀ (i:Nat) x H (Y:V→Hp→Prop),l[i]?=some x→Ext H1 H→(∀ H',Ext H H'→Y (mk (f x)) H')→te (some (src x) :: fr) H Y)
  (fin:∀ H,Ext H1 H→H acc=some (.lst ((l.map f).map mk))→R H):j7n (Itl K a) (j7a 0) [] te acc (u :: fr) H1 R:=by
 refine j7p hx (by rw[List.length_map];exact hz) hn (fun j ys _=>ys=((l.take j).map f).map mk) (by simp) (fun _ _ _ _ _ h=>h) (fun j ys H _ h=>by rw[h];simp;omega) ?_ ?_
 ·intro j y ys H hy e h Y N hY hN
  obtain⟨y,ey,rfl⟩:=jd1 hy
  refine j27 (turn j y H Y ey e fun H' e'=>hY _ _ e' ?_)
  rw[List.take_add_one,ey,h]
  simp
 ·intro ys H e ha h
  refine fin H e ?_
  rw[ha,h,List.length_map,List.take_of_length_le (Nat.le_refl _)]
theorem j3a (src:α→V) (mk:β→V) (f:α→β) {a:Addr}{u:Option V}{l:List α} (hx:SqT K H1 a (l.map src)) (hz:l.length≤1000000) (hn:H1 acc=none)
  (turn:∀ (i:Nat) x H (Y:V→Hp→Prop),l[i]?=some x→Ext H1 H→(∀ H',Ext H H'→Y (mk (f x)) H')→te (some (src x) :: fr) H Y)
  (fin:∀ H,Ext H1 H→H acc=some (.lst ((l.map f).map mk))→R H):j7n (Itt K a) (j7a 0) [] te acc (u :: fr) H1 R:=by
 refine j4r hx (by rw[List.length_map];exact hz) hn (fun j ys _=>ys=((l.take j).map f).map mk) (by simp) (fun _ _ _ _ _ h=>h) (fun j ys H _ h=>by rw[h];simp;omega) ?_ ?_
 ·intro j y ys H hy e h Y N hY hN
  obtain⟨y,ey,rfl⟩:=jd1 hy
  refine j27 (turn j y H Y ey e fun H' e'=>hY _ _ e' ?_)
  rw[List.take_add_one,ey,h]
  simp
 ·intro ys H e ha h
  refine fin H e ?_
  rw[ha,h,List.length_map,List.take_of_length_le (Nat.le_refl _)]
theorem jbx (mk:β→V) (f:Nat→β) {n:Nat}{u:Option V} (hz:n≤1000000) (hn:H1 acc=none)
  (turn:∀ (i:Nat) H (Y:V→Hp→Prop),i < n→Ext H1 H→(∀ H',Ext H H'→Y (mk (f i)) H')→te (some (.int (i:Nat)) :: fr) H Y)
  (fin:∀ H,Ext H1 H→H acc=some (.lst (((List.range n).map f).map mk))→R H):j7n (Itr 0 n) (j7a 0) [] te acc (u :: fr) H1 R:=by
 refine j2m hz hn (fun j ys _=>ys=((List.range j).map f).map mk) rfl (fun _ _ _ _ _ h=>h) (fun j ys H _ h=>by rw[h];simp) ?_ ?_
 ·intro j ys H hj e h Y N hY hN
  rw[show ((0:Int)+(j:Nat))=(j:Nat) by omega]
  refine j27 (turn j H Y hj e fun H' e'=>hY _ _ e' ?_)
  rw[List.range_succ,h]
  simp
 ·intro ys H e ha h
  refine fin H e ?_
  rw[ha,h]
theorem j5m (P:Int→Prop) {n:Nat}{u:Option V} (hz:n≤1000000) (hn:H1 acc=none)
  (turn:∀ (i:Nat) H (Y:V→Hp→Prop),i < n→Ext H1 H→(∀ x H',P x→Ext H H'→Y (.int x) H')→te (some (.int (i:Nat)) :: fr) H Y)
  (fin:∀ (xs:List Int) H,xs.length=n→(∀ x∈xs,P x)→Ext H1 H→H acc=some (.lst (xs.map V.int))→R H):j7n (Itr 0 n) (j7a 0) [] te acc (u :: fr) H1 R:=by
 refine j2m hz hn (fun j ys _=>∃ xs:List Int,ys=xs.map V.int∧xs.length=j∧∀ x∈xs,P x) ⟨[],rfl,rfl,by simp⟩ (fun _ _ _ _ _ h=>h) (fun j ys H _ ⟨xs,h,l,_⟩=>by rw[h,List.length_map];omega) ?_ ?_
 ·rintro j ys H hj e ⟨xs,rfl,hl,hp⟩ Y N hY hN
  rw[show ((0:Int)+(j:Nat))=(j:Nat) by omega]
  refine j27 (turn j H Y hj e fun x H' hx e'=>hY _ _ e' ⟨xs++[x],by simp,by simp[hl],fun y hy=>?_⟩)
  rcases List.mem_append.mp hy with z | z
  ·exact hp y z
  ·rw[List.mem_singleton.mp z];exact hx
 ·rintro ys H e ha ⟨xs,rfl,hl,hp⟩
  exact fin xs H hl hp e ha
end
section
variable {X:Cx}
open Classical in
theorem op_neD {k:Nat} (hr:Room k X.A):OpR X (compareOp .NotEq) (rEqD true):=by
 intro pins s σ H x y v u Q I rx ry h
 obtain⟨a,b,ha,hb,oa,ob,hd,q⟩:=h
 obtain⟨as,r1⟩:=j3f I a ha rx oa
 obtain⟨bs,r2⟩:=j3f I b hb ry ob
 have h1:=D.pyDepth a
 exact SeqAt.compareNe_reads r1 r2 (D.canLay a oa) (D.canLay b ob) (by have:=hr.units;omega) ⟨.bl (!eqD a b),H,I,rfl,q⟩
theorem oNe {k:Nat} (hr:Room k X.A):OpR X (compareOp .NotEq) rNeU:=jim.or (op_neD hr)
end
section
variable {K:PySem.W.Frag}{σ:St}{H:Hp}{Q:VK}
theorem j6n {i j:Str} (q:Q (.bl (!decide (i=j))) H):rNeU (.str i) (.str j) H Q:=.inl ⟨rfl,by
 rw[show decide (V.str i=V.str j)=decide (i=j) from decide_eq_decide.mpr ⟨fun z=>by cases z;rfl,fun z=>by rw[z]⟩];exact q⟩
theorem r_neD {x y:V}{a b:L2.D} (ha:Rep H a x) (hb:Rep H b y) (oa:a.eqOk=true) (ob:b.eqOk=true) (hd:a.depth≤20) (q:Q (.bl (!eqD a b)) H):rNeU x y H Q:=.inr ⟨a,b,ha,hb,oa,ob,hd,q⟩
end
section
variable {X:Cx}{pins:List (Addr × Obj)}{σ:St}{H:Hp}{s:Shared}{h':Heap}{n:Nat}
open Classical in
theorem Inv.passedN (I:Inv X pins σ H s) (hs:X.s₀.heap.objs.size≤n) (hn:∀ p∈X.pn++pins,p.1 < n) (u:Pass (frs X.stack) n H s.heap h'):Inv X pins σ H { s with heap:=h' }:=by
 let ch:=(List.range s.heap.objs.size).filter fun b=>decide (n≤b∧H b=none∧∃ o vs,s.heap.get? b=some o∧o.data=.fields vs)
 have out:∀ b o,s.heap.get? b=some o→b∉ch→b < n∨H b≠none∨∀ vs,o.data≠.fields vs:=fun b o e hb=>by
  by_cases h1:b < n
  ·exact .inl h1
  by_cases h2:H b≠none
  ·exact .inr (.inl h2)
  refine .inr (.inr fun vs q=>hb (List.mem_filter.mpr ⟨List.mem_range.mpr (Heap.lt_size e),decide_eq_true ⟨Nat.le_of_not_lt h1,Classical.not_not.mp h2,o,vs,e,q⟩⟩))
 refine I.call (ch:=ch) (g':=s.gens) (d':=s.drawn) (t':=s.toks) ⟨fun b o e z hb hx=>u.keep b o e hb (out b o e hx),fun b o e z hb hx=>u.slot b o e hb,fun _ _ _ z _=>z,fun b o e _=>u.there b o e,fun _ _ q=>q,fun _ _ _ q=>q,fun _ ps q=>⟨#[],by rw[q];simp⟩⟩ (fun b o e=>?_) I.bare fun b hb=>?_
 ·refine (I.hok b o e).stay (fun c w hc q=>?_) (fun _ q=>q) fun _ _ q=>q
  have tr:H c≠none:=by
   rcases hc with rfl | hc
   ·rw[e];simp
   ·rw[hc];simp
  exact u.keep c w q (fun z=>tr (I.stkFree c z)) (.inr (.inl tr))
 ·obtain⟨h1,_,o,vs,e,d⟩:=of_decide_eq_true (List.mem_filter.mp hb).2
  refine⟨.inr (Nat.le_trans hs h1),fun q=>?_,fun x c hc q=>?_,fun p hp q=>?_⟩
  ·subst q
   obtain⟨m,⟨o2,es,ep,e2,d2,_⟩,_⟩:=I.loc
   rw[e] at e2;cases e2
   rw[d] at d2;cases d2
  ·subst q
   obtain⟨v,o2,e2,d2⟩:=I.cell x c hc
   rw[e] at e2;cases e2
   rw[d] at d2;cases d2
  ·have:=hn p hp
   rw[q] at this
   exact absurd h1 (Nat.not_le.mpr this)
theorem Inv.heldN {a:Addr}{C:Value}{dx:Option Addr}{fl:Value} (I:Inv X pins σ H s) (hs:X.s₀.heap.objs.size≤n) (hn:∀ p∈X.pn++pins,p.1 < n) (er:Err n H s.heap a C dx fl):Inv X pins σ (upd H a (errH a C dx)) s:=by
 obtain⟨new,un,oe,vs,ea,ec,ed,edat,sz,hd⟩:=er
 have keep:∀ c u,H c=some u→upd H a (errH a C dx) c=some u:=fun c u q=>by
  rw[j0e fun z=>by rw[z,un] at q;cases q];exact q
 have nl:X.env.locals≠a:=fun q=>by
  obtain⟨m,⟨o2,es,ep,e2,d2,_⟩,_⟩:=I.loc
  rw[q,ea] at e2;cases e2
  rw[edat] at d2;cases d2
 have nc:∀ x c,X.env.cells.lookup x=some c→c≠a:=fun x c hc q=>by
  obtain⟨v,o2,e2,d2⟩:=I.cell x c hc
  rw[q,ea] at e2;cases e2
  rw[edat] at d2;cases d2
 refine⟨I.ok,I.os,I.bare,⟨I.base.keep,I.base.slot,fun b o e z hx=>?_,I.base.there,fun b xs q=>keep b _ (I.base.tups b xs q),fun b o u q=>keep b _ (I.base.frzs b o u q),fun b ps q=>?_⟩,
  I.loc,I.cell,by rw[j0e nl];exact I.free,fun x c h=>by rw[j0e (nc x c h)];exact I.freeC x c h,fun p hp=>?_,fun b o e=>?_,I.len⟩
 ·rw[j0e fun q=>?_]
  ·exact I.base.free b o e z hx
  ·subst q;exact absurd (Heap.lt_size e) (Nat.not_lt.mpr (Nat.le_trans hs new))
 ·obtain⟨m,e⟩:=I.base.tbls b ps q
  exact⟨m,keep b _ e⟩
 ·obtain⟨p1,p2,p3,p4,p5⟩:=I.pin p hp
  refine⟨p1,?_,p3,p4,p5⟩
  rw[j0e fun q=>?_]
  ·exact p2
  ·have:=hn p hp;rw[q] at this;exact absurd new (Nat.not_le.mpr this)
 ·by_cases q:b=a
  ·subst q
   rw[j0a] at e
   cases e
   exact⟨⟨oe,vs,ea,ec,ed,edat⟩,⟨oe,ea⟩,fun h1 h2 ⟨o,us,z1,z2⟩ k=>⟨o,us,k _ z1,z2⟩⟩
  ·rw[j0e q] at e
   exact (I.hok b o e).stay (fun c u _ z=>z) (fun c z=>keep c _ z) fun c xs z=>keep c _ z
end
def XP (X:Cx) (pins:List (Addr × Obj)) (σ:St) (E:XK) (e:Value) (s:Shared):Prop :=
 ∃ n H a C dx,e=.ref a∧X.s₀.heap.objs.size≤n∧(∀ p∈X.pn++pins,p.1 < n)∧Inv X pins σ H s∧Err n H s.heap a C dx .none∧E C dx H
section
variable {X:Cx}{k:Nat}{f C:Addr}{fd:FuncData}{ps:List Str}{sp:Sp}{dvs:List V}{ds:List Value}{E:XK}
theorem XP.of {pins:List (Addr × Obj)}{σ:St}{H:Hp}{s s':Shared}{e:Value} (I:Inv X pins σ H s) (h:CXE X.prog X.w X.stack H s E e s'):XP X pins σ E e s':=by
 obtain⟨a,C,dx,H',rfl,ho,hg,u,hok,er,q⟩:=h
 exact⟨_,H',a,C,dx,rfl,I.sz,fun p hp=>Heap.lt_size (I.pin p hp).1,I.call' (ch:=[]) ho u hok hg fun b z=>absurd z (by simp),er,q⟩
theorem jgu {pins:List (Addr × Obj)}{σ:St}{H:Hp}{s:Shared}{Q:VK}{us:List Value}{vs:List V} (F:FnOk X.prog X.w X.K X.mg X.base (CXE X.prog X.w) k f fd ps sp) (hr:Room k X.A) (hb:Binds X.K fd ps ds) (hd:Vals dvs ds)
  (I:Inv X pins σ H s) (r:Vals vs us) (h:sp (vs++dvs) H Q E):wpAny (model X.prog X.w) X.A (call (.ref f) us) (EP X pins σ Q) (XP X pins σ E) s:=by
 have r2:Vals (vs++dvs) (us++ds):=r.append hd
 have hl:(us++ds).length=ps.length:=by rw[← r2.length];exact F.len _ _ _ _ h
 refine wpAny_call (codeAny_mono (F.run X.A X.stack s H ⟨us,[]⟩ (us++ds) (vs++dvs) Q E hr I.env0 (hb s us I.kIn hl) r2 h) fun r s' hq=>?_)
 cases r with
 | error e=>exact XP.of I hq
 | ok fl =>
  cases fl with
  | ret u=>exact I.after hq
  | next=>exact False.elim hq
  | brk=>exact False.elim hq
  | cont=>exact False.elim hq
end
def PEX (X:Cx) (e:Expr) (t:XK→TE):Prop:=∀ (pins:List (Addr × Obj)) (s:Shared) (σ:St) (H:Hp) (Q:VK) (E:XK),Inv X pins σ H s→t E σ H Q→wpAny (model X.prog X.w) X.A (eval e X.env) (EP X pins σ Q) (XP X pins σ E) s
def PSX (X:Cx) (st:Stmt) (t:XK→TS):Prop:=∀ (pins:List (Addr × Obj)) (s:Shared) (σ:St) (H:Hp) (D:Ends) (E:XK),Inv X pins σ H s→t E D σ H→wpAny (model X.prog X.w) X.A (exec st X.env) (SP X pins D) (XP X pins σ E) s
def PSXs (X:Cx) (st:List Stmt) (t:XK→TS):Prop:=∀ (pins:List (Addr × Obj)) (s:Shared) (σ:St) (H:Hp) (D:Ends) (E:XK),Inv X pins σ H s→t E D σ H→wpAny (model X.prog X.w) X.A (execs st X.env) (SP X pins D) (XP X pins σ E) s
section
variable {X:Cx}{k:Nat}{f C:Addr}{fd:FuncData}{ps:List Str}{sp:Sp}{dvs:List V}{ds:List Value}{x m:Str}{p pos apos:Pos}{e o:Expr}{es:List Expr}{ta:TE}{t:TA}
theorem pa_any {E':Value→Shared→Prop} (h:PA X.nox es t) (pos:Pos) {pins:List (Addr × Obj)}{s:Shared}{σ:St}{H:Hp}{Q:List V→Hp→Prop} (I:Inv X pins σ H s) (q:t σ H Q):wpAny (model X.prog X.w) X.A (spliced (backTo pos (starEach es X.env))) (AP X pins σ Q) E' s :=
 wpAny_mono (h pos pins s σ H Q (I.wish _) q) (fun _ _ ⟨v,H',I',r,q⟩=>⟨v,H',I'.unwish,r,q⟩) fun _ _ z=>False.elim z
theorem j9s {te:XK→TE} (he:PEX X e te) (hs:swapsWith e none pos.line X.env=pure false:=by rfl):PSX X (.Expr e pos) (fun E=>jiy (te E)):=by
 intro pins s σ H D E I h
 exact wpAny_Expr_any (thn (he pins s σ H _ E I h) fun v s1 ⟨x,H1,I1,r1,q1⟩=>⟨σ,H1,I1,q1⟩) I.quiet hs
theorem j9t {st:Stmt}{ti:XK→TS} (h:PSX X st ti):PSXs X [st] ti:=by
 intro pins s σ H D E I q
 refine wpAny_execs_cons (wpAny_mono (h pins s σ H D E I q) (fun f s1 z=>?_) fun _ _ z=>z)
 cases f with
 | next=>exact wpAny_execs_nil z
 | brk=>exact z
 | cont=>exact z
 | ret u=>exact z
end
section
variable {M:Model}{A:Around}{E:Value→Shared→Prop}{s:Shared}{n:Nat}{H:Hp}{a:Addr}{C:Value}{dx:Option Addr}{fl:Value}
def jgv (h:Heap) (a:Addr):Prop:=∃ oe vs T,h.get? a=some oe∧oe.data=.fields vs∧vs[1]?=some (.ref T)
theorem j2o {Q:Unit→Shared→Prop}{fs:List Addr} (x:Err n H s.heap a C dx fl) (nh:jgv s.heap a) (nf:∀ b o vs,s.heap.get? b=some o→o.data=.fields vs→b∉fs)
  (h:∀ h',Pass fs n H s.heap h'→Err n H h' a C dx .none→jgv h' a→Q () { s with heap:=h' }):wpAny M A (setFlight (.ref a) none) Q E s:=by
 obtain⟨new,un,oe,vs,ea,ec,ed,edat,sz,hd⟩:=x
 obtain⟨oe2,vs2,T2,ea2,ed2,e12⟩:=nh
 rw[ea] at ea2;cases ea2
 rw[edat] at ed2;cases ed2
 rcases hd with⟨e0,_⟩ | ⟨T,oT,ts,e1,nT,uT,neT,eT,dT,e3⟩
 ·rw[e0] at e12;cases e12
 have h3:3 < ts.size:=(Array.getElem?_eq_some_iff.mp e3).1
 have ea':(s.heap.update T (Obj.mapFields (·.setIfInBounds 3 .none))).get? a=some oe:=by rw[Heap.get?_update_other _ _ neT];exact ea
 refine wpAny_setFlight_none ea edat e1 eT dT h3 (h _ ⟨fun b o e _ hb=>?_,fun b o e hb=>?_,fun b o e=>?_⟩ ⟨new,un,oe,vs,ea',ec,ed,edat,sz,.inr ⟨T,_,_,e1,nT,uT,neT,Heap.get?_update_self _ eT (Obj.isFreed_of_fields (j13 _ dT)),j13 _ dT,by simp[h3]⟩⟩ ⟨oe,vs,T,ea',edat,e1⟩)
 ·rw[Heap.get?_update_other _ _ fun q=>?_]
  ·exact e
  ·subst q
   rw[e] at eT
   cases eT
   rcases hb with hb | hb | hb
   ·exact absurd nT (Nat.not_le.mpr hb)
   ·exact hb uT
   ·exact hb ts dT
 ·have q:T≠b:=fun q=>by subst q;exact nf T oT ts eT dT hb
  rw[Heap.get?_update_other _ _ q]
  exact⟨o.slots,e⟩
 ·by_cases q:T=b
  ·subst q;exact⟨_,Heap.get?_update_self _ eT (Obj.isFreed_of_fields (j13 _ dT))⟩
  ·exact⟨o,by rw[Heap.get?_update_other _ _ q];exact e⟩
end
structure Catch (K:PySem.W.Frag) (C L:Addr):Prop where
 ex:∃ bm bl,ErrC K C bm∧ErrC K L bl∧(Value.ref C :: bm).contains (.ref L)=true
theorem jd2 {M:Model}{A:Around}{E:Value→Shared→Prop}{K:PySem.W.Frag}{C L a:Addr}{s:Shared}{oe:Obj}{Q:Bool→Shared→Prop} (KX:K.In s.heap) (c:Catch K C L) (he:s.heap.get? a=some oe) (hcls:oe.cls=.ref C) (hq:Q true s) :
  wpAny M A (excMatches (.ref a) (.ref L)) Q E s:=by
 obtain⟨bm,bl,⟨⟨nm,q,N,bs,hdct,sn,sub,ab,col,dd,k0,k1,k2,k3,k5,newId,lk⟩,cb⟩,⟨⟨nm',q',N',bs',hdct',sn',sub',ab',col',dd',k0',k1',k2',k3',k5',newId',lk'⟩,cb'⟩,hs⟩:=c.ex
 have hC:=KX _ _ lk
 have hL:=KX _ _ lk'
 have hB:(Value.ref L :: bl).contains (.type "BaseException")=true:=by rw[List.contains_cons,cb',Bool.or_true]
 have f:=tc_notTuple
 obtain⟨h,g,d,t,os⟩:=s
 unfold excMatches
 repeat (first | (with_reducible refine wpAny_loadPart_at he ?_;rw[hcls]) | with_reducible refine wpAny_loadPart_at hL ?_ | (with_reducible refine wpAny_isSubtype_exc hL ?_;rw[hB]) | (with_reducible refine wpAny_isSubtype_exc hC ?_;rw[hs]) | wp_step)
 exact hq
section
variable {X:Cx}{pins:List (Addr × Obj)}{σ:St}{H:Hp}{s:Shared}
abbrev Cx.inEx (X:Cx) (a:Addr):Cx:={ X with A:=X.A.mark (some (.ref a)),calm:=false }
theorem Cx.Ok.inEx (ok:X.Ok) (a:Addr):(X.inEx a).Ok :=
 ⟨ok.mod,ok.kind,ok.glob,ok.blt,ok.above,ok.inj,ok.has,ok.cab,fun z=>Bool.noConfusion z,ok.frames,ok.stk,ok.exf,ok.bs,ok.bsz,ok.noex,ok.exfs,ok.funs,ok.frf⟩
theorem Inv.inEx (I:Inv X pins σ H s) (a:Addr):Inv (X.inEx a) pins σ H s:=⟨I.ok.inEx a,I.os,I.bare,I.base,I.loc,I.cell,I.free,I.freeC,I.pin,I.hok,I.len⟩
theorem Inv.outEx {a:Addr} (ok:X.Ok) (I:Inv (X.inEx a) pins σ H s):Inv X pins σ H s:=⟨ok,I.os,I.bare,I.base,I.loc,I.cell,I.free,I.freeC,I.pin,I.hok,I.len⟩
theorem Inv.gone {h':Heap}{i t':Nat}{x:Str}{v:Option Value}{m:Str→Option Value} (I:Inv X pins σ H s) (hN:X.N.Nodup) (hi:X.N[i]?=some x) (hm:s.heap.Ns X.env.locals m) (hn:h'.Ns X.env.locals (fun y=>if y=x then v else m y)) (hs:Heap.SameBut X.env.locals s.heap h'):Inv X pins (σ.set i none) H { s with heap:=h',toks:=t' }:=by
 obtain⟨m2,hn2,hl⟩:=id I.loc
 have em:∀ y,m2 y=m y:=fun y=>by
  obtain⟨o1,es1,ep1,g1,d1,_,f1⟩:=id hn2
  obtain⟨o2,es2,ep2,g2,d2,_,f2⟩:=id hm
  rw[g1] at g2;cases g2
  rw[d1] at d2;cases d2
  exact (f1 y).symm.trans (f2 y)
 obtain⟨oL,_,_,hoL,_⟩:=id hm
 have low:∀ b o,X.s₀.heap.get? b=some o→b≠X.env.locals:=fun b o e=>Nat.ne_of_lt (Nat.lt_of_lt_of_le (Heap.lt_size e) I.ok.above)
 refine⟨I.ok,I.os,I.bare,⟨fun b o e z hb hx=>(hs.2 b (low b o e)).trans (I.base.keep b o e z hb hx),fun b o e z hb hx=>?_,I.base.free,fun b o e hx=>?_,I.base.tups,I.base.frzs,I.base.tbls⟩,⟨_,hn,fun j y v' e1 e2 e3=>?_⟩,fun y c e=>?_,I.free,I.freeC,fun p hp=>?_,fun b o e=>?_,by rw[List.length_set];exact I.len⟩
 ·obtain⟨sl,e1⟩:=I.base.slot b o e z hb hx
  exact⟨sl,(hs.2 b (low b o e)).trans e1⟩
 ·obtain⟨o',e1⟩:=I.base.there b o e hx
  exact⟨o',(hs.2 b (low b o e)).trans e1⟩
 ·have hj:j≠i:=fun q=>by
   subst q
   rw[List.getElem?_set_self (by rw[I.len];exact (List.getElem?_eq_some_iff.mp e1).1)] at e2
   cases e2
  rw[List.getElem?_set_ne (Ne.symm hj)] at e2
  obtain⟨u',r',q⟩:=hl j y v' e1 e2 e3
  refine⟨u',r',?_⟩
  rcases q with⟨k,e⟩ | ⟨k,c,e,z⟩
  ·refine .inl ⟨k,?_⟩
   have:y≠x:=fun e=>hj (j6a hN e1 (e ▸ hi))
   show (if y=x then v else m y)=some u'
   rw[if_neg this,← em]
   exact e
  ·exact .inr ⟨k,c,e,z.sameBut hs (I.cne y c e)⟩
 ·obtain⟨w',z⟩:=I.cell y c e
  exact⟨w',z.sameBut hs (I.cne y c e)⟩
 ·obtain⟨e,z,ne,nf,d⟩:=I.pin p hp
  exact⟨(hs.2 p.1 ne).trans e,z,ne,nf,d⟩
 ·refine (I.hok b o e).stay (fun c w' hc q=>(hs.2 c ?_).trans q) (fun _ q=>q) fun _ _ q=>q
  rintro rfl
  rcases hc with rfl | hc
  ·rw[I.free] at e;cases e
  ·rw[I.free] at hc;cases hc
end
def Ends.gone (D:Ends) (i:Nat):Ends:={ nx:=fun σ H=>D.nx (σ.set i none) H,rt:=D.rt,bk:=fun σ H=>D.bk (σ.set i none) H,ct:=fun σ H=>D.ct (σ.set i none) H }
def tTry (K:PySem.W.Frag) (L:Addr) (i:Nat) (tb:XK→TS) (ts:Addr→TS):TS:=fun D σ H =>
 tb (fun C dx H'=>∃ c,C=.ref c∧Catch K c L∧∀ x,H' x=none→ts x (D.gone i) (σ.set i (some (.ref x))) (upd H' x (errH x C dx))) D σ H
theorem ps_try {X:Cx}{body suite:List Stmt}{b₀:Stmt}{x lx:Str}{i:Nat}{L:Addr}{tb:XK→TS}{ts:Addr→TS}{p0 pos pos':Pos} (O:Own X) (hN:X.N.Nodup) (hi:X.N[i]?=some x) (hk:X.env.scope.names.lookup x=some .local) (hg:Gl X lx) (hm:X.mg lx=some (.ref L))
  (hb:PSXs X body tb) (hs:∀ a,PSs (X.inEx a).nox (b₀ :: suite) (ts a)) (hdb:(lx == ("__debug__":Str))=false:=by decide) :
  PS X (.Try body [.ExceptHandler (some (.Name lx p0)) (some x) (b₀ :: suite) pos'] [] [] pos) (tTry X.K L i tb ts):=by
 intro pins s σ H D I h
 refine wpAny_Try_except (wpAny_mono (hb pins s σ H D _ I h) (fun f s1 z=>?_) fun e s1 z=>?_)
 ·cases f with
  | next=>exact wpAny_execs_nil z
  | brk=>exact z
  | cont=>exact z
  | ret u=>exact z
 obtain⟨n,H1,a,C,dx,rfl,hsz,hpn,I1,er,c,rfl,hc,q⟩:=z
 have fr:X.A.frames=some (X.env :: X.outer):=by rw[← O.stk];exact I.ok.frames
 have fs:∀ {σ':St}{H':Hp}{s':Shared},Inv X pins σ' H' s'→s'.heap.FunFrames X.base (X.env :: X.outer):=fun J=>by rw[← O.stk];exact J.stack
 refine j4o fr (fs I1) O.frm er (.inl rfl) (fun b hb=>I1.hok.fresh hb) fun h2 p2 er2 nh2=>?_
 rw[← O.stk] at p2
 have I2:=I1.passedN hsz hpn p2
 have nfr:∀ {σ':St}{H':Hp}{s':Shared},Inv X pins σ' H' s'→∀ b o vs,s'.heap.get? b=some o→o.data=.fields vs→b∉frs X.stack:=fun J b o vs e d hb=>by
  obtain⟨_,o0,e0,nf⟩:=J.stack.mem hb
  rw[e] at e0;cases e0
  exact nf vs d
 refine j2o (s:={ s1 with heap:=h2 }) (fs:=frs X.stack) er2 nh2 (nfr I2) fun h3 p3 er3 nh3=>?_
 have I3:=I2.passedN hsz hpn p3
 refine wpAny_handleBy_cons (codeAny_handlers_test (j2h (X:=X.inEx a) (I3.inEx a) hg hm ?_ hdb)) (by intro z;cases z)
 obtain⟨new3,un3,oe3,vs3,ea3,ec3,rest3⟩:=id er3
 refine jd2 I3.kIn hc ea3 ec3 ?_
 refine codeAny_handlers_suite_as (j2o (s:={ s1 with heap:=h3 }) (fs:=frs X.stack) er3 nh3 (nfr I3) fun h4 p4 er4 nh4=>?_)
 have I4:=(I3.passedN hsz hpn p4).heldN hsz hpn er4
 refine j4k (X:=X.inEx a) (I4.inEx a) hN hi (.inl hk) (v:=.ref a) rfl (fun s5 I5=>?_) (.inr hk)
 refine wpAny_mono (hs a pins s5 _ _ (D.gone i) (I5.wish _) (q a er4.un)) (fun f s6 z=>?_) fun _ _ z=>False.elim z
 have go:∀ {σ':St}{H':Hp}{s':Shared}{Q:Unit→Shared→Prop},Inv X pins σ' H' s'→(∀ s2,Inv X pins (σ'.set i none) H' s2→Q () s2)→wpAny (model X.prog X.w) X.A (do bindName X.env x .none;unbindBehindTheSuite X.env x pos') Q X.xe s':=fun J k=>by
  obtain⟨m,hm',_⟩:=id J.loc
  exact wpAny_nameGoes_keeps hk hm' (by rw[J.ok.kind];rfl) fun h' v hn hs'=>k _ (J.gone hN hi hm' hn hs')
 cases f with
 | next =>
  obtain⟨σ',H',J,k⟩:=z
  exact go (J.unwish.outEx I.ok) fun s2 J2=>⟨_,H',J2,k⟩
 | brk =>
  obtain⟨σ',H',J,k⟩:=z
  exact go (J.unwish.outEx I.ok) fun s2 J2=>⟨_,H',J2,k⟩
 | cont =>
  obtain⟨σ',H',J,k⟩:=z
  exact go (J.unwish.outEx I.ok) fun s2 J2=>⟨_,H',J2,k⟩
 | ret u =>
  obtain⟨v,σ',H',J,r,k⟩:=z
  exact go (J.unwish.outEx I.ok) fun s2 J2=>⟨v,_,H',J2,r,k⟩
open PySem.Builtin PySem.Builtin.ObjectAttr
section
variable {E:Value→Shared→Prop}{prog:Program}{w:World}{A:Around}{h:Heap}{os:OsState}{g:Array GenState}{d:Drawn}{t:Nat}
variable {nm q:Str}{N:Addr}{bs bm:List Value}{sn:List Str}{sub:List Value}{ab:Bool}{col:Option Bool}{dd:Option Addr}{k0 k1 k2 k3 k5:Option Value}{newId:String}{C a dx:Addr}{o:Obj}{name:Str}{v:Value}{m:Str→Option Value}{vs:Array Value}
theorem jby {tk:Tok}{Q:Fin→Shared→Prop} (ln:PySem.W.Looks (model prog w) h (typeLookup (.ref C) name) none)
  (hC:h.get? C=some (excClassObj nm q C N bs bm true sn sub ab col dd k0 k1 k2 k3 k5 newId)) (hx:h.get? a=some o) (hc:o.cls=.ref C) (hd:o.dict=some dx) (hf:o.data=.fields vs) (hn:h.Ns dx m) (hv:m name=some v) (hq:Q (.done (.ret v)) ⟨h,g,d,t,os⟩) :
  wpAny (model prog w) A (PySem.Builtin.«object.__getattribute__» ⟨[.ref a,.str name tk],[]⟩) Q E ⟨h,g,d,t,os⟩:=by
 unfold PySem.Builtin.«object.__getattribute__»
 repeat (first | (with_reducible refine wpAny_loadPart_at hx ?_;rw[hc]) | wp_step)
 show wpAny _ _ (typeLookup (.ref C) name) _ _ _
 refine ln _ _ _ _ (fun _ _ e=>e) ?_
 repeat (first | (with_reducible refine wpAny_loadPart_at hx ?_) | wp_step)
 rw[hf]
 unfold instanceDict
 repeat (first | (with_reducible refine wpAny_loadPart_at hx ?_) | wp_step)
 rw[hd,hc]
 repeat (first | (with_reducible refine wpAny_loadPart_at hC ?_) | (show wpAny _ _ (nsGet dx name) _ _ _;refine wpAny_nsGet (s:=⟨h,g,d,t,os⟩) hn ?_;rw[hv]) | wp_step)
 exact hq
theorem j8h {M:Model}{nameV:Value}{Q:Unit→Shared→Prop} (cb:bm.contains (.type "BaseException")=true) (hC:h.get? C=some (excClassObj nm q C N bs bm true sn sub ab col dd k0 k1 k2 k3 k5 newId)) (hx:h.get? a=some o) (hc:o.cls=.ref C) (hq:Q () ⟨h,g,d,t,os⟩) :
  wpAny M A (checkBuiltinCall "BaseException.__getattribute__" ⟨[.ref a,nameV],[]⟩) Q E ⟨h,g,d,t,os⟩:=by
 have e1:builtinKind "BaseException.__getattribute__"=some .slot:=by decide +kernel
 have e2:splitId "BaseException.__getattribute__"=some ("BaseException","__getattribute__"):=by decide +kernel
 have e3:(Value.ref C :: bm).contains (.type "BaseException")=true:=by rw[List.contains_cons,cb,Bool.or_true]
 have e4:=PySem.F.args_bexc_ga (.ref a) nameV
 simp only[checkBuiltinCall,e1,e2]
 refine wpAny_bind ?_
 unfold isInstance
 repeat (first | (with_reducible refine wpAny_loadPart_at hx ?_;rw[hc]) | (with_reducible refine wpAny_isSubtype_exc hC ?_;rw[e3]) | wp_step)
 exact hq
theorem jd3 {tk:Tok}{fill expr:Bool}{Q:Value→Shared→Prop} (cb:bm.contains (.type "BaseException")=true) (lg:PySem.W.Looks (model prog w) h (typeLookup (.ref C) "__getattribute__") (some (.builtin "BaseException.__getattribute__"))) (lh:PySem.W.Looks (model prog w) h (typeLookup (.ref C) "__getattr__") none)
  (hC:h.get? C=some (excClassObj nm q C N bs bm true sn sub ab col dd k0 k1 k2 k3 k5 newId)) (hx:h.get? a=some o) (hc:o.cls=.ref C)
  (ent:∀ {A:Around}{E:Value→Shared→Prop}{Q:Fin→Shared→Prop},Q (.done (.ret v)) ⟨h,g,d,t,os⟩→wpAny (model prog w) A (PySem.Builtin.«object.__getattribute__» ⟨[.ref a,.str name tk],[]⟩) Q E ⟨h,g,d,t,os⟩)
  (hh:handedOut v=pure v) (hq:Q v ⟨h,g,d,t,os⟩):wpAny (model prog w) A (getAttrBy (.ref a) (.str name tk) fill expr) Q E ⟨h,g,d,t,os⟩:=by
 have ga:=PySem.F.excAttr_ValueError.ga
 have gb:=ga.bind (.ref a)
 have z0:(expr && onTheHeap (Value.builtin "BaseException.__getattribute__"))=false:=by cases expr <;> rfl
 have z1:(Value.builtin "BaseException.__getattribute__" == Value.builtin "object.__getattribute__")=false:=by decide +kernel
 have z2:(onTheHeap (Value.ref C) && Value.builtin "BaseException.__getattribute__" == Value.builtin "object.__getattribute__")=false:=by rw[z1];rfl
 unfold getAttrBy
 repeat (any_goals (first | (with_reducible refine wpAny_loadPart_at hx ?_;rw[hc]) | (show wpAny _ _ (typeLookup (.ref C) "__getattribute__") _ _ _;refine lg _ _ _ _ (fun _ _ e=>e) ?_) | (show wpAny _ _ (typeLookup (.ref C) "__getattr__") _ _ _;refine lh _ _ _ _ (fun _ _ e=>e) ?_) | rw[z2] | rw[z0] | assumption | wp_step))
 refine codeAny_call_builtin ga.plain PySem.F.entry_bexc_ga (j8h cb hC hx hc (ent ?_))
 show wpAny _ _ (handedOut v) _ _ _
 rw[hh]
 exact wpAny_pure hq
theorem jel {expr:Bool}{Q:Value→Shared→Prop} (cb:bm.contains (.type "BaseException")=true) (lg:PySem.W.Looks (model prog w) h (typeLookup (.ref C) "__getattribute__") (some (.builtin "BaseException.__getattribute__"))) (lh:PySem.W.Looks (model prog w) h (typeLookup (.ref C) "__getattr__") none)
  (ln:PySem.W.Looks (model prog w) h (typeLookup (.ref C) name) none) (hC:h.get? C=some (excClassObj nm q C N bs bm true sn sub ab col dd k0 k1 k2 k3 k5 newId)) (hx:h.get? a=some o) (hc:o.cls=.ref C) (hd:o.dict=some dx) (hf:o.data=.fields vs) (hn:h.Ns dx m) (hv:m name=some v)
  (hh:handedOut v=pure v) (hq:∀ t',Q v ⟨h,g,d,t',os⟩):wpAny (model prog w) A (getAttr (.ref a) name expr) Q E ⟨h,g,d,t,os⟩:=by
 unfold getAttr
 refine wpAny_bind ?_
 unfold mkText
 repeat (any_goals (first | (show wpAny _ _ (getAttrBy _ _ _ _) _ _ _;exact jd3 cb lg lh hC hx hc (fun z=>jby ln hC hx hc hd hf hn hv z) hh (hq _)) | wp_step))
end
structure ErrI (K:PySem.W.Frag) (C:Addr):Prop where
 at_:∃ nm q N bs bm sn sub ab col dd k0 k1 k2 k3 k5 newId,K.lookup C=some (excClassObj nm q C N bs bm true sn sub ab col dd k0 k1 k2 k3 k5 newId)∧bm.contains (.type "BaseException")=true
 ga:PySem.W.findIn K (.ref C) "__getattribute__"=some (some (.builtin "BaseException.__getattribute__"))
 gh:PySem.W.findIn K (.ref C) "__getattr__"=some none
 ca:PySem.W.findIn K (.ref C) "__class__"=some (some (.builtin "object.__class__"))
 cn:PySem.W.specialIn K (.builtin "object.__class__") "__get__"=some (some (.builtin "getset_descriptor.__get__"))
 ct:PySem.W.takesIn K (.builtin "object.__class__")=some true
 cm:PySem.W.mroIn K C (.type "object")=some true
section
variable {K:PySem.W.Frag}{C a:Addr}{oe od:Obj}
theorem jbz {prog:Program}{w:World}{A:Around}{E:Value→Shared→Prop}{Q:Option Value→Shared→Prop}{s:Shared} (e:ErrI K C) (X:K.In s.heap) (I:PySem.W.InstAt s.heap a oe C (some od)) (hq:Q (some (.ref C)) { s with toks:=s.toks+1 }) :
  wpAny (model prog w) A (getAttr? (.ref a) "__class__") Q E s:=by
 obtain⟨nm,q,N,bs,bm,sn,sub,ab,col,dd,k0,k1,k2,k3,k5,newId,lk,cb⟩:=e.at_
 have hC:=X _ _ lk
 have cl:(PySem.W.clsIn K C).isSome=true:=by unfold PySem.W.clsIn;rw[lk];rfl
 have hf:PySem.W.findObj K C (some od) "__class__"=some (.bind (.builtin "getset_descriptor.__get__") (.builtin "object.__class__")):=PySem.W.findObj_data cl e.ca e.cn e.ct
 obtain⟨h,g,d,t,os⟩:=s
 unfold getAttr? getAttrBy?
 refine wpAny_bind (wpAny_mkText (wpAny_bind (wpAny_attempt ?_)))
 refine jd3 cb (PySem.W.looks_findIn X e.ga) (PySem.W.looks_findIn X e.gh) hC I.at_ I.cls (fun {A E Q} z=>?_) rfl (wpAny_pure hq)
 unfold PySem.Builtin.«object.__getattribute__»
 have L0:=I.type (M:=model prog w)
 have L1:=PySem.W.looks_find (M:=model prog w) X I hf
 refine wpAny_bind (wpAny_pure (wpAny_bind (wpAny_pure (wpAny_bind (L0.at (wpAny_bind (L1.at ?_)))))))
 show wpAny _ _ (holding [Value.builtin "object.__class__"] (call (.builtin "getset_descriptor.__get__") [.builtin "object.__class__",.ref a,.ref C]) >>= ret) _ _ _
 exact wpAny_bind (wpAny_holding (wpAny_call (PySem.W.class_get (od:=some od) (s:=⟨h,g,d,t+1,os⟩) X I e.cm (wpAny_pure z))))
theorem jd4 (e:ErrI K C):PySem.W.KitX K (.ref a) (.ref C) (fun h=>PySem.W.InstAt h a oe C (some od)) where
 ty:=fun _ _ _ I=>I.type
 it:=fun _ _ X _=>by
  obtain⟨nm,q,N,bs,bm,sn,sub,ab,col,dd,k0,k1,k2,k3,k5,newId,lk,cb⟩:=e.at_
  intro A' Q' E' s' k z
  unfold isType loadHead
  exact wpAny_bind (wpAny_loadPart (k _ _ (X _ _ lk)) (wpAny_pure z))
 ne:=fun h tp dd its n sl X htp=>by
  obtain⟨nm,q,N,bs,bm,sn,sub,ab,col,dd',k0,k1,k2,k3,k5,newId,lk,cb⟩:=e.at_
  refine Bool.eq_false_iff.mpr fun q=>?_
  have e:C=tp:=Value.ref.inj (beq_iff_eq.mp q)
  subst e
  have z:Value.type "type"=Value.type "tuple":=congrArg Obj.cls (Option.some.inj ((X _ _ lk).symm.trans htp))
  exact absurd (Value.type.inj z) (by decide)
 ca:=fun X I k=>jbz e X I k
end
def j5n (H:Hp) (a C dx:Addr):Prop:=H a=some (errH a (.ref C) (some dx))∨H a=some (errN a C (some dx))
section
variable {X:Cx}{pins:List (Addr × Obj)}{σ:St}{H:Hp}{s:Shared}{a C dx:Addr}{fs:List (Str × V)}
theorem Inv.err (I:Inv X pins σ H s) (h:j5n H a C dx):∃ o vs,s.heap.get? a=some o∧o.cls=.ref C∧o.dict=some dx∧o.data=.fields vs:=by
 rcases h with h | h
 ·obtain⟨⟨o,vs,e1,e2,e3,e4⟩,_,_⟩:=I.hok a _ h
  exact⟨o,vs,e1,e2,e3,e4⟩
 ·obtain⟨⟨t,sl,e⟩,_,_⟩:=I.hok a _ h
  exact⟨_,_,e,rfl,rfl,rfl⟩
theorem Inv.errAt (I:Inv X pins σ H s) (h:j5n H a C dx) (hd:H dx=some (.xd fs)):∃ oe od,PySem.W.InstAt s.heap a oe C (some od):=by
 obtain⟨o,vs,e1,e2,e3,e4⟩:=I.err h
 obtain⟨mA,⟨od,es,ep,ed,_⟩,_⟩:=I.hok dx _ hd
 refine⟨o,od,e1,e2,?_,?_⟩
 ·unfold PySem.W.notCls;rw[e4]
 ·rw[e3];exact ed
def rIsE (K:PySem.W.Frag):List V→Hp→VK→Prop:=fun xs H Q=>∃ a C dx fs b,((∃ n,xs=[.ref a,.ty n]∧PySem.W.kitOne K (.ref C) (.type n)=some b)∨∃ B,xs=[.ref a,.ref B]∧PySem.W.kitOne K (.ref C) (.ref B)=some b)∧j5n H a C dx∧H dx=some (.xd fs)∧ErrI K C∧Q (.bl b) H
theorem cIsE:CallR X (.builtin "isinstance") (rIsE X.K):=by
 intro pins s σ H xs us Q I r h
 obtain⟨a,C,dx,fs,b,hx,he,hd,hi,q⟩:=h
 obtain⟨oe,od,ia⟩:=I.errAt he hd
 rcases hx with⟨n,rfl,e⟩ | ⟨n,rfl,e⟩
 ·obtain⟨u,w',rfl,ru,rw'⟩:=jfh r
  obtain rfl:w'=Value.type n:=rw'
  obtain rfl:u=Value.ref a:=ru
  exact PySem.W.kia_one (jd4 hi) I.kIn ia e (by intro z;cases z) fun tk=>⟨.bl b,H,I.tok _,rfl,q⟩
 ·obtain⟨u,w',rfl,ru,rw'⟩:=jfh r
  obtain rfl:w'=Value.ref n:=rw'
  obtain rfl:u=Value.ref a:=ru
  exact PySem.W.kia_one (jd4 hi) I.kIn ia e (by intro z;cases z) fun tk=>⟨.bl b,H,I.tok _,rfl,q⟩
def jkg (K:PySem.W.Frag) (f:Str):V→Hp→VK→Prop:=fun x H Q=>∃ a C dx fs v,x=.ref a∧j5n H a C dx∧H dx=some (.xd fs)∧fs.lookup f=some v∧(v=.non∨∃ i,v=.int i)∧ErrI K C∧PySem.W.findIn K (.ref C) f=some none∧Q v H
def tEFld (K:PySem.W.Frag) (ta:TE) (f:Str):TE:=fun σ H Q=>ta σ H fun x H1=>jkg K f x H1 Q
theorem jgw {e:Expr}{ta:TE}{f:Str}{pos:Pos} (he:PE X e ta) (hb:attributeBase e f X.env (eval e X.env)=eval e X.env):PE X (.Attribute e f pos) (tEFld X.K ta f):=by
 intro pins s σ H Q I h
 refine jct hb (thn (he pins s σ H _ I h) fun u s1 ⟨x,H1,I1,rx,a,C,dx,fs,v,ex,hE,hd,l,hv,hi,hn,q⟩=>?_)
 subst ex
 obtain rfl:u=Value.ref a:=rx
 obtain⟨nm,qn,N,bs,bm,sn,sub,ab,col,dd,k0,k1,k2,k3,k5,newId,lk,cb⟩:=hi.at_
 obtain⟨o,vs,e1,e2,e3,e4⟩:=I1.err hE
 obtain⟨mA,ns,rel⟩:=I1.hok dx _ hd
 have kin:=I1.kIn
 have rl:=rel f
 rw[l] at rl
 obtain⟨uv,em,rv⟩:∃ uv,mA f=some uv∧RelV v uv:=by
  cases em:mA f with
  | none=>rw[em] at rl;exact False.elim rl
  | some uv=>rw[em] at rl;exact⟨uv,rfl,rl⟩
 have hh:handedOut uv=pure uv:=by
  rcases hv with rfl | ⟨i,rfl⟩
  ·cases (show uv=Value.none from rv);rfl
  ·obtain⟨t,rfl⟩:=(show ∃ t,uv=Value.int i t from rv);rfl
 obtain⟨hp,g,d,tk,os⟩:=s1
 exact jel cb (PySem.W.looks_findIn kin hi.ga) (PySem.W.looks_findIn kin hi.gh) (PySem.W.looks_findIn kin hn) (kin _ _ lk) e1 e2 e3 e4 ns.ns em hh fun t'=>⟨v,H1,I1.tok _,rv,q⟩
end
theorem jb1 {X:Cx}{E:XK} (O:Own X):j2k (CXE X.prog X.w) (X.wish (XS X E)) E:=fun _ _ _ _ _ _ I h=>callX O I.unwish h
theorem xsW {X:Cx}{F:Value→Shared→Prop}{E:XK}{e:Value}{s:Shared} (h:XS (X.wish F) E e s):XS X E e s:=by
 obtain⟨σ,H,a,C,dx,fl,h1,I,r⟩:=h
 exact⟨σ,H,a,C,dx,fl,h1,I.unwish,r⟩
theorem j19 {X:Cx}{E:XK}{e:Expr}{te:TE}{pos:Pos} (O:Own X) (hc:X.calm=true) (he:PE (X.wish (XS X E)) e te):PS (X.wish (XS X E)) (.Raise (some e) none pos) (jbi X.K X.s₀.heap.objs.size E te) :=
 je6 (X:=X.wish (XS X E)) ⟨O.stk,O.frm,O.pn⟩ (fun _ _ z=>xsW z) hc he
def bmV:List Value:=[.type "ValueError",.type "Exception",.type "BaseException",.type "object"]
structure ErrK (K:PySem.W.Frag) (C:Addr) (bm:List Value) (f:Addr):Prop where
 lk:∃ nm q N bs sn sub ab col dd k0 k1 k2 k3 k5,K.lookup C=some (excClassObj nm q C N bs bm true sn sub ab col dd k0 k1 k2 k3 k5 "ValueError.__new__")
 init:PySem.W.findIn K (.ref C) "__init__"=some (some (.ref f))
 fn:PySem.W.isFn K (.ref f)=true
 kp:PySem.W.keepIn K (.ref C)=true
 set:PySem.W.findIn K (.ref C) "__setattr__"=some (some (.builtin "object.__setattr__"))
 row:PySem.W.findIn K (.ref C) "row"=some none
 ga:PySem.W.findIn K (.ref C) "__getattribute__"=some (some (.builtin "BaseException.__getattribute__"))
 gh:PySem.W.findIn K (.ref C) "__getattr__"=some none
 ca:PySem.W.findIn K (.ref C) "__class__"=some (some (.builtin "object.__class__"))
 cn:PySem.W.specialIn K (.builtin "object.__class__") "__get__"=some (some (.builtin "getset_descriptor.__get__"))
 ct:PySem.W.takesIn K (.builtin "object.__class__")=some true
 cm:PySem.W.mroIn K C (.type "object")=some true
def Tl (bm:List Value):Prop:=bm=bmV∨∃ L,bm=.ref L :: bmV
theorem Tl.has {bm:List Value}{T:String} (h:Tl bm) (k:bmV.contains (.type T)=true):bm.contains (.type T)=true:=by
 rcases h with rfl | ⟨L,rfl⟩
 ·exact k
 ·rw[List.contains_cons,k,Bool.or_true]
theorem Tl.no {bm:List Value}{T:String} (h:Tl bm) (k:bmV.contains (.type T)=false):bm.contains (.type T)=false:=by
 rcases h with rfl | ⟨L,rfl⟩
 ·exact k
 ·rw[List.contains_cons,k,Bool.or_false];rfl
section
variable {K:PySem.W.Frag}{C f:Addr}{bm:List Value}
theorem ErrK.em (e:ErrK K C bm f) (h:Tl bm):ErrM K C f bm bmV "ValueError" "ValueError.__new__" "ValueError.__init__":=by
 obtain⟨nm,q,N,bs,sn,sub,ab,col,dd,k0,k1,k2,k3,k5,lk⟩:=e.lk
 exact⟨⟨nm,q,N,bs,_,sn,sub,ab,col,dd,k0,k1,k2,k3,k5,lk⟩,PySem.F.excBase_ValueError,h.has (by decide +kernel),h.no (by decide +kernel),h.no (by decide +kernel),h.has (by decide +kernel),e.init,e.fn,e.kp⟩
theorem ErrK.es (e:ErrK K C bm f) (h:Tl bm):ErrS K C "row" bm:=by
 obtain⟨nm,q,N,bs,sn,sub,ab,col,dd,k0,k1,k2,k3,k5,lk⟩:=e.lk
 refine⟨⟨nm,q,N,bs,sn,sub,ab,col,dd,k0,k1,k2,k3,k5,_,lk⟩,fun x=>?_,h.has (by decide +kernel),e.set,e.row⟩
 rcases h with rfl | ⟨L,rfl⟩
 ·exact PySem.F.store_ValueError.passes _
 ·rw[refuseLoop_ref];exact PySem.F.store_ValueError.passes _
theorem ErrK.ec (e:ErrK K C bm f) (h:Tl bm):ErrC K C bm:=by
 obtain⟨nm,q,N,bs,sn,sub,ab,col,dd,k0,k1,k2,k3,k5,lk⟩:=e.lk
 exact⟨⟨nm,q,N,bs,_,sn,sub,ab,col,dd,k0,k1,k2,k3,k5,_,lk⟩,h.has (by decide +kernel)⟩
theorem ErrK.ei (e:ErrK K C bm f) (h:Tl bm):ErrI K C:=by
 obtain⟨nm,q,N,bs,sn,sub,ab,col,dd,k0,k1,k2,k3,k5,lk⟩:=e.lk
 exact⟨⟨nm,q,N,bs,bm,sn,sub,ab,col,dd,k0,k1,k2,k3,k5,_,lk,h.has (by decide +kernel)⟩,e.ga,e.gh,e.ca,e.cn,e.ct,e.cm⟩
theorem jc0 {L fL:Addr} (e:ErrK K C (.ref L :: bmV) f) (l:ErrK K L bmV fL):Catch K C L:=⟨_,_,e.ec (.inr ⟨_,rfl⟩),l.ec (.inl rfl),by simp⟩
end
def jir (K:PySem.W.Frag):Sp:=fun vs H Q _=>∃ x C bm v,vs=[.ref x,v]∧H x=some (errN x C none)∧ErrS K C "row" bm∧∀ dx,H dx=none→dx≠x→Q .non (upd (upd H dx (.xd [("row",v)])) x (errN x C (some dx)))
section
variable {K:PySem.W.Frag}{σ:St}{H:Hp}{Q:VK}{D:Ends}{E:XK}
theorem r_try {L:Addr}{i:Nat}{tb:XK→TS}{ts:Addr→TS} (q:tb (fun C dx H'=>∃ c,C=.ref c∧Catch K c L∧∀ x,H' x=none→ts x (D.gone i) (σ.set i (some (.ref x))) (upd H' x (errH x C dx))) D σ H):tTry K L i tb ts D σ H:=q
theorem j1g {C f:Addr}{bm:List Value}{n:Nat} (e:ErrK K C bm f) (h:Tl bm) (q:∀ dx H',H dx=none→H' dx=some (.xd [("row",.non)])→Ext H H'→E (.ref C) (some dx) H'):jbi K n E (tErr C n (jir K) [.non] E0 tNil) D σ H:=by
 refine⟨by decide,fun x hx hn=>⟨x,C,bm,.non,rfl,j0a,e.es h,fun dx hd ne=>⟨rfl,x,C,some dx,bm,rfl,j0a,hn,e.ec h,?_⟩⟩⟩
 have hd':H dx=none:=by rwa [j0e ne] at hd
 refine q dx _ hd' ?_ fun b o hb=>?_
 ·rw[j5k ne,j0e ne,j0a]
 ·have nx:b≠x:=fun z=>by rw[z,hx] at hb;cases hb
  have nd:b≠dx:=fun z=>by rw[z,hd'] at hb;cases hb
  rw[j5k nx,j0e nx,j0e nd,j0e nx]
  exact hb
theorem jc1 {a C dx B:Addr}{fs:List (Str × V)}{b:Bool} (h:j5n H a C dx) (hd:H dx=some (.xd fs)) (i:ErrI K C) (k:PySem.W.kitOne K (.ref C) (.ref B)=some b) (q:Q (.bl b) H):rIsE K [.ref a,.ref B] H Q:=⟨a,C,dx,fs,b,.inr ⟨B,rfl,k⟩,h,hd,i,q⟩
theorem r_isET {a C dx:Addr}{n:String}{fs:List (Str × V)}{b:Bool} (h:j5n H a C dx) (hd:H dx=some (.xd fs)) (i:ErrI K C) (k:PySem.W.kitOne K (.ref C) (.type n)=some b) (q:Q (.bl b) H):rIsE K [.ref a,.ty n] H Q:=⟨a,C,dx,fs,b,.inl ⟨n,rfl,k⟩,h,hd,i,q⟩
theorem jgx {ta:TE}{f:Str} (q:ta σ H fun x H1=>jkg K f x H1 Q):tEFld K ta f σ H Q:=q
theorem jem {C:Value}:PySem.W.kitOne K C C=some true:=by unfold PySem.W.kitOne;rw[if_pos (by simp)]
theorem r_gone {i:Nat} (q:D.nx (σ.set i none) H):(D.gone i).nx σ H:=q
end
section
variable {P:Program}{w:World}{K:PySem.W.Frag}{mg:Str→Option Value}{base:Heap}{ds:List Value}
theorem FunD.okX {x qual:Str}{st:Stmt}{f:Addr}{fd:FuncData}{N ps:List Str}{k:Nat}{sp:Sp} (F:FunD K x qual st f fd ds) (S:FnScope N ps (j07 st)) (len:∀ vs H Q E,sp vs H Q E→vs.length=ps.length)
  (hbody:∀ (cdv:Value) (A:Around) (outer:List Env) (s:Shared) (H:Hp) (vs:List V) (Q:VK) (E:XK),Room k (A.deeper (envOfC qual (j07 st) s.heap.objs.size f cdv))→sp vs H Q E →
   ∃ t,PSs ((cxOf (CXU P w) P w K mg base N qual (j07 st) f cdv A outer s H E).wish (XS (cxOf (CXU P w) P w K mg base N qual (j07 st) f cdv A outer s H E) E)) (j1q st) t∧t { nx:=fun _ H'=>Q .non H',rt:=Q } (start N vs) H):FnOk P w K mg base (CXU P w) (k+1) f fd ps sp:=by
 obtain⟨oc,od,T,kV,doc,pm,an,cdv,ct,osl,tc,td,tn,tsl,rfl,lk,hcd,_⟩:=F.ex
 refine jio lk hcd S len fun A outer s H vs Q E hr hsp=>?_
 obtain⟨t,h,q⟩:=hbody cdv A outer s H vs Q E hr hsp
 exact⟨t,h.wished leftX,q⟩
end
section
variable {K:PySem.W.Frag}{σ:St}{H:Hp}{Q:VK}
theorem j9u {α:Type} (x:α):∀ k:Nat,(List.replicate k [x]).flatten=List.replicate k x
 | 0=>rfl
 | k+1=>by rw[List.replicate_succ,List.flatten_cons,j9u x k,List.replicate_succ];rfl
theorem j3y {l:Addr}{x:V}{k:Int} (h:H l=some (.lst [x])) (k0:0≤k) (k1:k≤1000000) (q:∀ p H',H p=none→H' p=some (.lst (List.replicate k.toNat x))→Ext H H'→Q (.ref p) H'):rRep (.ref l) (.int k) H Q :=
 ⟨l,k,[x],rfl,rfl,h,by omega,by omega,by rw[sizeLine_eq];show 1 * k.toNat≤_;omega,fun p n=>q p _ n (by rw[j9u];exact j0a) (j1e n)⟩
end
theorem iteTc {c:Bool}{A B:Prop} (h:c=true) (q:A):if c=true then A else B:=by rw[h];exact iteT q
theorem iteFc {c:Bool}{A B:Prop} (h:c=false) (q:B):if c=true then A else B:=by rw[h];exact iteF q
section
variable {K:PySem.W.Frag}{σ:St}{H:Hp}{Q:VK}{E:XK}
theorem jgy {a C dx f:Addr}{bm:List Value}{i:Int} (h:j5n H a C dx) (hd:H dx=some (.xd [("row",.int i)])) (e:ErrK K C bm f) (t:Tl bm) (q:Q (.int i) H):jkg K "row" (.ref a) H Q:=⟨a,C,dx,_,.int i,rfl,h,hd,rfl,.inr ⟨i,rfl⟩,e.ei t,e.row,q⟩
end
structure RoomW (k:Nat) (A:Around):Prop where
 dp:A.depth+3 * k+5 < recursionLimit
 un:A.units+16 * k+200 < cLine
structure FnOkW (P:Program) (w:World) (K:PySem.W.Frag) (mg:Str→Option Value) (base:Heap) (CX:CXT) (k:Nat) (f:Addr) (fd:FuncData) (ps:List Str) (sp:Sp):Prop where
 len:∀ vs H Q E,sp vs H Q E→vs.length=ps.length
 run:∀ (A:Around) (outer:List Env) (s:Shared) (H:Hp) (args:Args) (us:List Value) (vs:List V) (Q:VK) (E:XK),RoomW k A→Env0 P w K mg base A outer s H→BindsTo s fd args (ps.zip us)→Vals vs us→sp vs H Q E →
  codeAny (model P w) A (.call (.ref f) args) (CR CX outer P w H s Q E) s
def mulS (x:Str) (n:Nat):Str:=⟨((List.replicate n x.cps.toList).flatten).toArray⟩
theorem foldA (its:List Nat):∀ (k:Nat) (acc:List Nat),List.foldl (fun x1 x2=>x1++x2) acc.toArray (List.replicate k its.toArray)=(acc++(List.replicate k its).flatten).toArray
 | 0,acc=>by simp
 | k+1,acc=>by
  rw[List.replicate_succ,List.foldl_cons,show acc.toArray++its.toArray=(acc++its).toArray by simp,foldA its k (acc++its),List.replicate_succ,List.flatten_cons,List.append_assoc]
theorem jgz (x:Str) (n:Nat):Txt.mul x n=mulS x n:=by
 unfold Txt.mul mulS
 by_cases h1:(n:Int) < 1
 ·have:n=0:=by omega
  subst this
  rfl
 ·rw[if_neg h1]
  by_cases h2:((n:Int) == 1 || x.length == 0)=true
  ·rw[if_pos h2]
   rw[Bool.or_eq_true,beq_iff_eq,beq_iff_eq] at h2
   rcases h2 with h2 | h2
   ·have:n=1:=by omega
    subst this
    simp
   ·have e:x.cps.toList=[]:=by
     have:x.cps.toList.length=0:=h2
     exact List.length_eq_zero_iff.mp this
    have e2:x.cps=#[]:=by rw[← Array.toArray_toList (xs:=x.cps),e]
    rw[e]
    have:(List.replicate n ([]:List Nat)).flatten=[]:=by simp
    rw[this,← e2]
  ·rw[if_neg h2,Int.toNat_natCast]
   have:=foldA x.cps.toList n []
   simp only[Array.toArray_toList,List.nil_append] at this
   rw[← this]
section
variable {X:Cx}
def rAddS:R2:=fun x y H Q=>∃ i j,x=.str i∧y=.str j∧i.length+j.length≤sizeLine∧Q (.str (i++j)) H
def jis (K:PySem.W.Frag):R2:=fun x y H Q=>jiq K x y H Q∨rAddS x y H Q
theorem j0y:OpR X (binaryOp .Add) (jis X.K):=oAddV.or j92
def rMulS:R2:=fun x y H Q=>∃ (i:Str) (k:Int),x=.str i∧y=.int k∧0≤k∧k≤1000∧i.length≤1000∧Q (.str (mulS i k.toNat)) H
theorem jh0:OpR X (binaryOp .Mult) rMulS:=by
 intro pins s σ H x y v u Q I rx ry h
 obtain⟨i,k,rfl,rfl,k0,k1,hl,q⟩:=h
 obtain⟨t,rfl⟩:=rx
 obtain⟨t',rfl⟩:=ry
 obtain⟨n,rfl⟩:∃ n:Nat,k=n:=⟨k.toNat,by omega⟩
 rw[Int.toNat_natCast] at q
 refine SB.mul ⟨?_,fun h1 _=>?_,fun _ _=>?_⟩ fun t2 tk=>⟨.str (mulS i n),H,I.tok _,⟨t2,by rw[jgz]⟩,q⟩
 ·rw[Bool.or_eq_false_iff,decide_eq_false_iff_not,decide_eq_false_iff_not];omega
 ·have h3:(i.length:Int) * n≤1000000:=by
   have:i.length * n≤1000 * 1000:=Nat.mul_le_mul hl (by omega)
   have:=Int.ofNat_le.mpr this
   rw[Int.natCast_mul] at this
   omega
  have h4:(i.length:Int)≤(2 ^ 63-1) / n:=Int.le_ediv_of_mul_le (by omega) (by omega)
  omega
 ·rw[Int.toNat_natCast]
  unfold Builtin.Str.tooLong
  have:i.length * n≤1000 * 1000:=Nat.mul_le_mul hl (by omega)
  rw[decide_eq_false_iff_not,sizeLine_eq]
  omega
def jkj:R2:=fun x y H Q=>rI CMulB (fun i j=>.int (i * j)) x y H Q∨rMulS x y H Q
theorem j8i:OpR X (binaryOp .Mult) jkj:=jg3.or jh0
def rLeS:R2:=fun x y H Q=>∃ i j,x=.str i∧y=.str j∧Q (.bl (!decide (j.cps.toList < i.cps.toList))) H
theorem op_leS:OpR X (compareOp .LtE) rLeS:=by
 intro pins s σ H x y v u Q I rx ry h
 obtain⟨i,j,rfl,rfl,q⟩:=h
 obtain⟨t,rfl⟩:=rx
 obtain⟨t',rfl⟩:=ry
 exact PySem.P.le_str ⟨.bl _,H,I,rfl,q⟩
def rLeW:R2:=fun x y H Q=>rI0 (fun i j=>.bl (decide (i≤j))) x y H Q∨rLeS x y H Q
theorem oLeW:OpR X (compareOp .LtE) rLeW:=op_le.or op_leS
def jh1 (K:PySem.W.Frag):List V→Hp→VK→Prop:=fun xs H Q=>rLen K xs H Q∨∃ z:Str,xs=[.str z]∧z.length≤sizeLine∧Q (.int z.length) H
theorem j24:CallR X (.builtin "len") (jh1 X.K):=cLen.or j6h
end
def AscS (x:Str):Prop:=x.cps.all (· < 128)=true
def Its (x:Str):It:=⟨fun i _=>i < x.cps.size,fun i H v H'=>H'=H∧∃ c,x.cps[i]?=some c∧v=.str ⟨#[c]⟩,fun i _=>x.cps.size≤i⟩
theorem jen {P:Program}{w:World}{K:PySem.W.Frag}{tg:Expr} (x:Str) (t:Tok) (it:Addr):Turn P w K tg (Its x) [it] it (fun i h=>h.IsStrIter it "str_ascii_iterator" x t i) where
 mem:=List.mem_singleton.mpr rfl
 obj:=fun i h st b hb=>by
  cases List.mem_singleton.mp hb
  obtain⟨o,e,c,d⟩:=st
  exact⟨o,e,fun v z=>by rw[d] at z;cases z⟩
 keep:=fun i h h' st k=>let ⟨o,e,r⟩:=st;⟨o,k it (List.mem_singleton.mpr rfl) o e,r⟩
 item:=by
  intro X hP hw hK hc i pins s σ H E I hf st hg
  subst hP hw hK
  have hx:x.cps[i]?=some (x.cps[i]'hg):=Array.getElem?_eq_getElem hg
  obtain⟨f0,f1,f2,f3,f4,f5⟩:=hf it (List.mem_singleton.mpr rfl)
  refine wpAny_pyNext_ascii_item st hx fun h' st' sb=>?_
  have I1:Inv X pins σ H { s with heap:=h',toks:=s.toks+1 }:=I.turned (t':=s.toks+1) (fun b o hb e=>(sb.2 b hb).trans e) f0 f1 f3 f4 f5
  obtain⟨o,e,c,d⟩:=id st'
  exact⟨_,rfl,jil (s:={ s with heap:=h',toks:=s.toks+1 }) e c d (by decide) ⟨.str ⟨#[x.cps[i]'hg]⟩,H,I1,⟨_,rfl⟩,⟨rfl,_,hx,rfl⟩,st',fun b hb=>(hf b hb).1⟩⟩
 done:=by
  intro X hP hw hK hc i pins s σ H E I hf st hg
  subst hP hw hK
  obtain⟨f0,f1,f2,f3,f4,f5⟩:=hf it (List.mem_singleton.mpr rfl)
  exact wpAny_pyNext_ascii_end (I.ok.hd hc) st (Array.getElem?_eq_none hg) fun h' eb=>⟨rfl,I.turned (t':=s.toks) (fun b o hb e=>eb b o hb e) f0 f1 f3 f4 f5⟩
 self:=fun _ _ _ _ _ st h=>wpAny_pyIter_striter_ascii st h
section
variable {X:Cx}{tg:Expr}
def iStr (tl:TE):TI:=fun σ H R=>tl σ H fun x H1=>∃ z,x=.str z∧AscS z∧R (Its z) H1
theorem jh2 {l:Expr}{tl:TE} (hl:PE X l tl):PI X tg l (iStr tl):=by
 intro pins s σ H R I h
 refine thn (hl pins s σ H _ I h) fun v s1 ⟨x,H1,I1,r1,q1⟩=>?_
 obtain⟨z,e,ha,q⟩:=q1
 subst e
 obtain⟨t,rfl⟩:=r1
 refine wpAny_pyIter_ascii ha ?_
 refine⟨s1.heap.objs.size,[s1.heap.objs.size],_,_,H1,rfl,I1.kept (t':=s1.toks) fun b o e=>Heap.get?_push_of_some _ e,jen z t _,⟨_,Heap.get?_push_size _ rfl,rfl,rfl⟩,fun b hb=>?_,q⟩
 cases List.mem_singleton.mp hb
 exact I1.fpOk (Nat.le_refl _) (I1.hok.fresh (Nat.le_refl _))
end
section
variable {K:PySem.W.Frag}{ts:List TT}{te:TE}{acc:Addr}{fr:St}{H1:Hp}{R:Hp→Prop}
theorem j9v {β:Type} (mk:β→V) (f:Nat→β) {x:Str}{u:Option V} (hz:x.cps.size≤1000000) (hn:H1 acc=none)
  (turn:∀ (i c:Nat) H (Y:V→Hp→Prop),x.cps[i]?=some c→Ext H1 H→(∀ H',Ext H H'→Y (mk (f c)) H')→te (some (.str ⟨#[c]⟩) :: fr) H Y)
  (fin:∀ H,Ext H1 H→H acc=some (.lst ((x.cps.toList.map f).map mk))→R H):j7n (Its x) (j7a 0) [] te acc (u :: fr) H1 R:=by
 refine j3e x.cps.size hz hn (fun σ=>∃ u,σ=u :: fr) (fun j ys _=>ys=((x.cps.toList.take j).map f).map mk) ⟨u,rfl⟩ (by simp) (fun _ _ _ _ _ h=>h) (fun i H hi e=>hi) (fun H e=>Nat.le_refl _) (fun i ys H _ h=>by rw[h];simp;omega) ?_ ?_
 ·rintro i σ ys H v H' G hi e ⟨u,rfl⟩ pv ⟨rfl,c,hc,rfl⟩ hG
  refine hG _ _ ⟨_,rfl⟩ ?_
  intro Y N hY hN
  refine j27 (turn i c _ _ hc e fun H2 e2=>hY _ H2 e2 ?_)
  have hc':x.cps.toList[i]?=some c:=by rw[Array.getElem?_toList];exact hc
  rw[pv,List.take_add_one,hc']
  simp
 ·intro ys H e ha pv
  subst pv
  refine fin H e ?_
  rw[ha,List.take_of_length_le (by rw[Array.length_toList];exact Nat.le_refl _)]
end
def putS (l:List Str) (x:Str):List Str:=if x∈l then l else l++[x]
def metS (ss:List Str):List Str:=ss.foldl putS []
theorem j28 (ss:List Str) (x:Str):metS (ss++[x])=putS (metS ss) x:=by unfold metS;rw[List.foldl_append];rfl
theorem j4u (l:List Str) (x:Str):(putS l x).length=if x∈l then l.length else l.length+1:=by unfold putS;split <;> simp
theorem j9w (l:List Str) (x y:Str):y∈putS l x↔y∈l∨y=x:=by
 unfold putS
 split
 ·rename_i h
  exact⟨.inl,fun z=>z.elim id (fun e=>by rw[e];exact h)⟩
 ·simp
theorem j7r {P:List Str→Prop} (h0:P []) (h1:∀ l x,P l→P (l++[x])) (l:List Str):P l:=by
 have k:∀ m:List Str,P m.reverse:=fun m=>by
  induction m with
  | nil=>exact h0
  | cons a r ih=>rw[List.reverse_cons];exact h1 _ _ ih
 have:=k l.reverse
 rwa [List.reverse_reverse] at this
theorem j9x (ss:List Str):(metS ss).length≤ss.length:=by
 induction ss using j7r with
 | h0=>exact Nat.le_refl _
 | h1 l x ih =>
  rw[j28,j4u,List.length_append,List.length_singleton]
  split <;> omega
theorem j9y (ss:List Str) (y:Str):y∈metS ss↔y∈ss:=by
 induction ss using j7r with
 | h0=>exact Iff.rfl
 | h1 l x ih=>rw[j28,j9w,ih,List.mem_append,List.mem_singleton]
theorem j9z {ss:List Str} (h:ss.Nodup):(metS ss).length=ss.length:=by
 induction ss using j7r with
 | h0=>rfl
 | h1 l x ih =>
  obtain⟨h1,h2,h3⟩:=List.nodup_append.mp h
  have nx:x∉metS l:=fun z=>h3 x ((j9y l x).mp z) x (List.mem_singleton.mpr rfl) rfl
  rw[j28,j4u,if_neg nx,ih h1,List.length_append,List.length_singleton]
theorem ja0 {ss:List Str} (h:¬ ss.Nodup):(metS ss).length < ss.length:=by
 induction ss using j7r with
 | h0=>exact absurd List.nodup_nil h
 | h1 l x ih =>
  have:=j9x l
  rw[j28,j4u,List.length_append,List.length_singleton]
  by_cases hx:x∈metS l
  ·rw[if_pos hx];omega
  ·rw[if_neg hx]
   have:¬ l.Nodup:=fun z=>h (List.nodup_append.mpr ⟨z,by simp,fun a ha b hb e=>hx ((j9y l x).mpr (by rw[← List.mem_singleton.mp hb,← e];exact ha))⟩)
   have:=ih this
   omega
section
variable {w:World}{prog:Program}{A:Around}
variable {R:Result→Shared→Prop}{I:Addr}{fp wr:List Addr}{G:Array GenState→Array GenState→Prop}{n:Nat}{P:Nat→Value→Prop}{St:Nat→Shared→Prop}
theorem jc2 (W:WalksS prog w A.in1 I fp wr G n P St) (S:Addr) (hSf:S∉fp) (ss:List Str) (hn:ss.length=n) (hval:∀ i v,P i v→∃ x t,ss[i]?=some x∧v=.str x t) (hb:n+1 < scanBound) :
  ∀ (k i:Nat) (s:Shared),n-i=k→i≤n→St i s→s.heap.SetOf (PySem.strKind prog w) S (fun x=>decide (x∈metS (ss.take i))) (metS (ss.take i)).length →
   (∀ s',Moved (S :: wr) G s s'→s'.heap.SetOf (PySem.strKind prog w) S (fun x=>decide (x∈metS ss)) (metS ss).length→R (.ok (.ret .none)) s') →
   codeAny (model prog w) A (Code.builtin "set.update.loop" ⟨[.ref S,.ref I],[]⟩) R s:=by
 skip;have hSw:S∉wr:=fun h=>hSf (W.sub _ h)
 have sub2:∀ b∈wr,b∈S :: wr:=fun b hb=>List.mem_cons_of_mem _ hb
 intro k
 induction k with
 | zero =>
  intro i s hk hi hst hS hR
  obtain rfl:i=n:=by omega
  refine codeAny_builtin PyProof.Rows.F.entry_set_update_loop ?_;rw[Around.under_plainId PyProof.Rows.F.plain_set_update_loop _]
  show wpAny _ A.in1 (pyNext (.ref I) >>= _) _ _ s;refine wpAny_bind (W.done s _ _ hst fun s' hm=>?_)
  rw[← hn,List.take_length] at hS
  refine wpAny_pure (hR s' (hm.mono sub2) ?_)
  skip;obtain⟨o,es,ep,t,ho,rest⟩:=hS
  exact⟨o,es,ep,t,hm.heap S _ hSw ho,rest⟩
 | succ k ih =>
  intro i s hk hi hst hS hR
  have hlt:i < n:=by omega
  refine codeAny_builtin PyProof.Rows.F.entry_set_update_loop ?_;rw[Around.under_plainId PyProof.Rows.F.plain_set_update_loop _]
  show wpAny _ A.in1 (pyNext (.ref I) >>= _) _ _ s;refine wpAny_bind (W.item i s _ _ hlt hst fun v s' hP hst' hm=>?_)
  obtain⟨x,t,hx,rfl⟩:=hval i v hP
  have hS':s'.heap.SetOf (PySem.strKind prog w) S (fun x=>decide (x∈metS (ss.take i))) (metS (ss.take i)).length:=by
   skip;obtain⟨o,es,ep,tb,ho,rest⟩:=hS
   skip;exact⟨o,es,ep,tb,hm.heap S _ hSw ho,rest⟩
  show wpAny _ A.in1 (holding [Value.str x t] (setAdd S (.str x t)) >>= _) _ _ s'
  refine wpAny_bind (wpAny_holding ?_);unfold setAdd;refine wpAny_holding ?_
  have hkey:(PySem.strKind prog w).is x (.str x t)=true:=by simp[PySem.strKind,Value.isStrOf]
  refine wpAny_bind ((PySem.strKind prog w).pyHash (k:=x) hkey ?_)
  have le:=j9x (ss.take i)
  rw[List.length_take] at le
  refine wpAny_setAddHashed_of (knd:=PySem.strKind prog w) hkey rfl hS' (by omega) fun h' hsb hS2=>?_
  have et:ss.take (i+1)=ss.take i++[x]:=by rw[List.take_add_one,hx];rfl
  have hSi:h'.SetOf (PySem.strKind prog w) S (fun x=>decide (x∈metS (ss.take (i+1)))) (metS (ss.take (i+1))).length:=by
   refine SetOf_congr hS2 (fun y=>?_) ?_
   ·rw[et,j28,decide_eq_decide.mpr (j9w _ _ _),Bool.decide_or]
   ·rw[et,j28,j4u]
    simp
  refine wpAny_pure ⟨plainId_quiet PyProof.Rows.F.plain_set_update_loop _,ih (i+1) _ (by omega) hlt (W.frame _ s' _ _ hst' (by first | exact Nat.le_succ _ | exact Nat.le_refl _) fun b hb o e=>?_) hSi fun s'' hm'' hS''=>?_⟩
  ·skip;rw[hsb.2 b (fun h:b=S=>hSf (by rw[← h];exact hb))];exact e
  ·refine hR s'' (Moved.trans W.gtrans ((hm.mono sub2).then_heap (by first | exact Nat.le_succ _ | exact Nat.le_refl _) fun b o hb e=>?_) hm'') hS''
   skip;rw[hsb.2 b (fun h:b=S=>hb (by rw[h];exact List.mem_cons_self))];exact e
end
theorem jc3:isSubtype (.type "tuple") (.type "set")=pure false:=by rw[isSubtype_type];kernel_rfl
theorem ja1:isSubtype (.type "tuple") (.type "frozenset")=pure false:=by rw[isSubtype_type];kernel_rfl
abbrev newSet (led:Bool):Obj:={ cls:=.type "set",dict:=none,data:=.set #[] 0 (.fresh 0 0 led) }
section
variable {prog:Program}{w:World}{A:Around}{E:Value→Shared→Prop}{s:Shared}
set_option maxHeartbeats 8000000 in
theorem j5o {l:Addr}{items:Array Value}{ss:List Str}{Q:Value→Shared→Prop} (hh:A.handled=none) (hl:s.heap.IsTuple l items) (hi:∀ (i:Nat) (v:Value),items[i]?=some v→∃ x t,ss[i]?=some x∧v=.str x t) (hz:ss.length=items.size) (hb:items.size+1 < scanBound)
  (h:∀ (h':Heap) (tk:Nat),h'.SetOf (PySem.strKind prog w) s.heap.objs.size (fun x=>decide (x∈metS ss)) (metS ss).length→(∀ b o,b < s.heap.objs.size→s.heap.get? b=some o→h'.get? b=some o)→Q (.ref s.heap.objs.size) { s with heap:=h',toks:=tk }) :
  wpAny (model prog w) A (call (Value.type "set") [.ref l]) Q E s:=by
 obtain⟨c,tl,hmro⟩:=PySem.F.called_set.mro
 have hmade:=PySem.F.called_set.made
 have hsub:=PySem.F.called_set.sub
 refine wpAny_call (codeAny_of_tree ?_);show wpAny _ _ (callAny (.type "set") _) _ _ _;refine wpAny_pure ⟨Code.quiet_builtin _ (by decide +kernel),codeAny_builtin PySem.F.entry_type_call ?_⟩
 skip;rw[Around.under_plain (weight_type_call_type "set" [.ref l] []) rfl]
 have h1:=PySem.F.called_set.notType
 have h2:=PySem.F.called_set.canCreate
 have hct:=PySem.F.typeCall_set_1 (.ref l)
 skip;repeat (any_goals (first | assumption | wp_step))
 refine codeAny_mono (code_set_new_1 (.ref l) (E:=E) (Q₁:=fun obj s₁=>∃ led:Bool,obj=.ref s.heap.objs.size∧s₁={ s with heap:=s.heap.push (newSet led) }) fun led=>⟨led,rfl,rfl⟩) fun r s₁ hr=>?_
 cases r with
 | error e=>exact hr
 | ok fl =>
  cases fl with
  | ret obj =>
   obtain⟨led,rfl,rfl⟩:=hr
   have hS:(s.heap.push (newSet led)).get? s.heap.objs.size=some (newSet led):=Heap.get?_push_size _ rfl
   have hT:Shared.TypeIs { s with heap:=s.heap.push (newSet led) } (.ref s.heap.objs.size) "set":=⟨_,hS,rfl⟩
   have hli:=PySem.F.called_set.init.lookup
   have hbi:=PySem.F.called_set.init.bind (.ref s.heap.objs.size)
   skip;repeat (any_goals (first | assumption | wp_step))
   refine codeAny_mono (codeAny_call_builtin (R:=wants (fun r s₂=>r=.none∧∃ h' tk,s₂={ s with heap:=h',toks:=tk }∧h'.SetOf (PySem.strKind prog w) s.heap.objs.size (fun x=>decide (x∈metS ss)) (metS ss).length∧(∀ b o,b < s.heap.objs.size→s.heap.get? b=some o→h'.get? b=some o)) E) PySem.F.called_set.init.plain PySem.F.entry_set_init (check_set_init_1 hT ?_)) fun r₂ s₂ hr₂=>?_
   ·obtain⟨⟨ocls,odict,odata,oslots⟩,hol,hcl,nl,hdl⟩:=hl
    replace hcl:ocls=.type "tuple":=hcl
    replace hdl:odata=.seq items nl:=hdl
    subst hcl hdl
    have hol':(s.heap.push (newSet led)).get? l=some { cls:=.type "tuple",dict:=odict,data:=.seq items nl,slots:=oslots }:=Heap.get?_push_of_some _ hol
    have hsls:=jc3
    have hslf:=ja1
    have hne:(Value.type "tuple" == Value.type "dict")=false:=by decide
    have hl1:(s.heap.push (newSet led)).IsTuple l items:=⟨_,hol',rfl,nl,rfl⟩
    unfold Builtin.«set.__init__» noKeywords Builtin.Frozenset.updateFrom;generalize hPI:pyIter=PI;wp_walk;subst hPI
    refine wpAny_pyIter_tuple hl1 (wpAny_bind (wpAny_runValue ?_))
    skip;have hlS:l < s.heap.objs.size:=Heap.lt_size hol
    have hh3:A.in1.in1.in1.handled=none:=hh
    have hneI:l≠(s.heap.push (newSet led)).objs.size:=by rw[Heap.size_push];exact Nat.ne_of_lt (Nat.lt_succ_of_lt hlS)
    have hSf:s.heap.objs.size∉[(s.heap.push (newSet led)).objs.size,l]:=by
     rw[Heap.size_push];simp only[List.mem_cons,List.mem_nil_iff,or_false,not_or]
     skip;exact⟨Nat.ne_of_lt (Nat.lt_succ_self _),Nat.ne_of_gt hlS⟩
    refine jc2 ((Walks.tuple hh3 _ l hneI items).toS) s.heap.objs.size hSf ss hz hi hb (items.size-0) 0 _ (by omega) (Nat.zero_le _) ⟨⟨_,Heap.get?_push_size _ rfl,rfl,rfl⟩,⟨_,Heap.get?_push_of_some _ hol',rfl,nl,rfl⟩⟩ ?hS0 ?hR
    case hS0 =>
     exact SetOf_congr ((setObjOf_fresh (knd:=PySem.strKind prog w) led).setOf (Heap.get?_push_of_some _ hS) (by unfold scanBound;omega)) (fun _=>rfl) rfl
    case hR =>
     intro s' hm hS'
     obtain⟨h',g',d',t',o'⟩:=s'
     skip;have eg:g'=s.gens:=hm.gens
     skip;have ed:d'=s.drawn:=hm.drawn
     have eo:o'=s.os:=hm.os
     subst eg ed eo
     show wpAny _ _ _ _ _ _;refine wpAny_pure ?_;show wpAny _ _ (ret Value.none) _ _ _
     refine wpAny_pure ⟨rfl,h',t',rfl,hS',fun b o hb e=>?_⟩
     have hb2:b≠(s.heap.push (newSet led)).objs.size:=by rw[Heap.size_push];exact Nat.ne_of_lt (Nat.lt_succ_of_lt hb)
     refine hm.heap b o ?_ (Heap.get?_push_of_some _ (Heap.get?_push_of_some _ e))
     simp only[List.mem_cons,List.mem_nil_iff,or_false,not_or]
     exact⟨Nat.ne_of_lt hb,hb2⟩
   ·cases r₂ with
    | error e=>exact hr₂
    | ok fl₂ =>
     cases fl₂ with
     | ret r =>
      skip;obtain⟨rfl,h',tk,rfl,hS',hk'⟩:=hr₂
      skip;repeat (any_goals (first | assumption | wp_step))
      exact h _ _ hS' hk'
     | _=>exact hr₂.elim
  | _=>exact hr.elim
end
theorem jd5:∀ {ss:List Str}{us:List Value},Vals (ss.map V.str) us→∀ (i:Nat) (v:Value),us[i]?=some v→∃ x t,ss[i]?=some x∧v=.str x t
 | [],us,r,i,v,h=>by cases r;simp at h
 | x :: ss,us,r,i,v,h=>by
  cases r with
  | cons r1 r2 =>
   cases i with
   | zero =>
    obtain⟨t,e⟩:=r1
    simp at h
    exact⟨x,t,rfl,by rw[← h,e]⟩
   | succ i=>exact jd5 r2 i v (by simpa using h)
theorem j5p:∀ {ss:List Str}{us:List Value},Vals (ss.map V.str) us→StrsAre us ss
 | [],us,r=>by cases r;exact .nil
 | x :: ss,us,r=>by
  cases r with
  | cons r1 r2 =>
   obtain⟨t,e⟩:=r1
   subst e
   exact .cons x t (j5p r2)
theorem j7s:∀ {us:List Value}{ss:List Str},StrsAre us ss→Vals (ss.map V.str) us
 | _,_,.nil=>.nil
 | _,_,.cons x t h=>.cons ⟨t,rfl⟩ (j7s h)
section
variable {X:Cx}
def jd6 (K:PySem.W.Frag):List V→Hp→VK→Prop:=fun xs H Q=>∃ (p:Addr) (ss:List Str),xs=[.ref p]∧SqT K H p (ss.map V.str)∧ss.length≤1000∧Q (.int ((metS ss).length:Nat)) H
theorem jc4 {a:Expr}{ta:TA}{p p' pos pos':Pos} (hc:X.calm=true) (hg:Gl X "len") (hm:X.mg "len"=none) (hg2:Gl X "set") (hm2:X.mg "set"=none) (ha:PA X [a] ta) (hs:starEach [a] X.env=[(false,eval a X.env)]:=by rfl)
  (ht:starEach [.Call (.Name "set" p') [a] [] pos'] X.env=[(false,eval (.Call (.Name "set" p') [a] [] pos') X.env)]:=by rfl) :
  PE X (.Call (.Name "len" p) [.Call (.Name "set" p') [a] [] pos'] [] pos) (tCB (jd6 X.K) ta):=by
 intro pins s σ H Q I h
 refine wpAny_Call_Name_kw (j5a I hg hm PySem.boot_len (PyProof.Rows.callWith_builtin1 ?_ ht rfl) (by decide) (by decide))
 rw[ht]
 show wpAny _ _ (spliced ((false,eval (.Call (.Name "set" p') [a] [] pos') X.env) :: backTo pos [])) _ _ s
 refine Calls.spliced_cons (wpAny_Call_Name_kw (j5a I hg2 hm2 boot_set (PyProof.Rows.callWith_type1 (thn (ha pos' pins s σ H _ I h) fun us s1 ⟨vs,H1,I1,r1,q1⟩=>?_) hs rfl) (by decide) (by decide)))
 obtain⟨p1,ss,e,hx,hz,q⟩:=q1
 subst e
 obtain⟨u,rfl,ru⟩:=j8a r1
 cases ru
 obtain⟨its,ri,pl,_⟩:=I1.tuple hx
 have hl:=ri.length
 rw[List.length_map] at hl
 have le:=j9x ss
 refine j5o (ss:=ss) (I1.ok.hd hc) pl (fun i v hv=>jd5 ri i v (by simpa using hv)) (by rw[List.size_toArray];exact hl) (by rw[List.size_toArray];unfold scanBound;omega) fun h' tk hS hk=>Calls.spliced_nil ?_
 obtain⟨o,es,ep,t,ho,hex,hd,_,_,_,hf,hn⟩:=hS
 refine call_len_set ho hex hd hf (by omega) ⟨.int ((metS ss).length:Nat),H1,?_,⟨_,by rw[hn]⟩,q⟩
 exact I1.kept (t':=tk+1+1) fun b o e=>hk b o (Heap.lt_size e) e
theorem ja2 {K:PySem.W.Frag}{H:Hp}{Q:VK}{p:Addr}{ss:List Str} (h:H p=some (.tup (ss.map V.str))) (hz:ss.length≤1000) (q:Q (.int ((metS ss).length:Nat)) H):jd6 K [.ref p] H Q:=⟨p,ss,rfl,SqT.of h,hz,q⟩
end
section
variable {prog:Program}{w:World}{A:Around}{E:Value→Shared→Prop}{s:Shared}
theorem jeo {b:Bool}{l:Addr}{vs:List Value}{ss:List Str}{Q:Value→Shared→Prop} (hl:SqA b s.heap l vs.toArray) (hz:vs.length≤sizeLine) (hS:StrsAre vs ss) (h64:vs.length < 64)
  (h:∀ (out:Array Value) (ss':List Str),StrsAre out.toList ss'→ss'.Perm ss→sortedS ss'=true→Q (.ref (s.heap.objs.size+1)) { s with heap:=sortedAll s.heap vs out }):wpAny (model prog w) A (call (.builtin "sorted") [.ref l]) Q E s:=by
 refine Calls.call_function_entry kind_sorted plain_sorted entry_sorted (args_sorted1 _) ?_;unfold Builtin.«sorted»
 refine wpAny_bind (m:=checkCount "sorted" 1 1 _) (wpAny_pure (wpAny_bind (j9n hl hz (wpAny_bind (wpAny_newList ?_)))))
 have n1:((s.heap.push (seqObj "list" #[] 0)).update s.heap.objs.size (Obj.mapSeq (·++vs.toArray))).objs.size=s.heap.objs.size+1:=by rw[Heap.size_update,size_push']
 have o1:(((s.heap.push (seqObj "list" #[] 0)).update s.heap.objs.size (Obj.mapSeq (·++vs.toArray))).push (seqObj "list" vs.toArray 0)).get? (s.heap.objs.size+1)=some (seqObj "list" vs.toArray 0):=by rw[← n1];exact Heap.get?_push_size _ rfl
 show wpAny _ _ _ _ _ { s with heap:=((s.heap.push (seqObj "list" #[] 0)).update s.heap.objs.size (Obj.mapSeq (·++vs.toArray))).push (seqObj "list" vs.toArray 0) };rw[n1]
 refine wpAny_bind (wpAny_holding (wpAny_call_entry slot_list_sort ⟨_,o1,rfl⟩ entry_list_sort (list_sort_treeK strKind_oneLt o1 hS.keysOf (fun v₁ v₂ rest e=>keyKind_strs (by rw[← e];exact hS)) h64 fun st' a1 a2=>⟨_,rfl,?_⟩) (args_list_sort _)))
 obtain⟨ss',e1,e2,e3⟩:=sorted_out_str hS a1 a2
 exact wpAny_pure ⟨_,rfl,h _ ss' e1 e2 e3⟩
end
section
variable {X:Cx}
def jh3 (K:PySem.W.Frag):List V→Hp→VK→Prop:=fun xs H Q=>∃ (p:Addr) (ss:List Str) (c:Bool),xs=[.ref p]∧SqE K H p (ss.map V.str) c∧ss.length < 64∧∀ l (ss':List Str),H l=none→ss'.Perm ss→sortedS ss'=true→Q (.ref l) (upd H l (.lst (ss'.map V.str)))
theorem cSortS:CallR X (.builtin "sorted") (jh3 X.K):=by
 intro pins s σ H xs us Q I r h
 obtain⟨p,ss,c,rfl,hq,h64,q⟩:=h
 obtain⟨u,rfl,rx⟩:=j8a r
 cases rx
 obtain⟨its,r',pl,hz⟩:=I.sqe hq
 have hlen:=r'.length
 rw[List.length_map] at hlen hz
 refine jeo pl (by omega) (j5p r') (by omega) fun out ss' a1 a2 a3=>?_
 obtain⟨e,he⟩:=sortedAll_at s.heap its out
 refine⟨.ref (s.heap.objs.size+1),_,I.laid (t':=s.toks) (fun b o q=>sortedAll_old q) (Nat.le_succ _) (show ObjOk X.prog X.w _ _ _ (.lst (ss'.map V.str)) from⟨by rw[List.length_map,a2.length_eq];exact hz,out.toList,e,j7s a1,by simpa using he⟩),rfl,q _ ss' (I.hok.fresh (Nat.le_succ _)) a2 a3⟩
def jc5 (K:PySem.W.Frag):List V→Hp→VK→Prop:=fun xs H Q=>j7q K xs H Q∨jh3 K xs H Q
theorem j6o:CallR X (.builtin "sorted") (jc5 X.K):=jgq.or cSortS
end
section
variable {K:PySem.W.Frag}{σ:St}{H:Hp}{Q:VK}
theorem jh4 {i j:Int} (q:Q (.int (i+j)) H):jis K (.int i) (.int j) H Q:=.inl (jgs q)
theorem j0v {i j:Str} (h:i.length+j.length≤1000000) (q:Q (.str (i++j)) H):jis K (.str i) (.str j) H Q:=.inr ⟨i,j,rfl,rfl,by rw[sizeLine_eq];omega,q⟩
theorem j0r {l b:Addr}{xs zs:List V} (h1:H l=some (.lst xs)) (h2:H b=some (.lst zs)) (hl:xs.length+zs.length≤1000000) (q:∀ p H',H p=none→H' p=some (.lst (xs++zs))→Ext H H'→Q (.ref p) H'):jis K (.ref l) (.ref b) H Q:=.inl (r_catL h1 h2 hl q)
theorem jd7 {i j:Int} (c:CMulB i j) (q:Q (.int (i * j)) H):jkj (.int i) (.int j) H Q:=.inl (r_I c q)
theorem j7t {i:Str}{k:Int} (k0:0≤k) (k1:k≤1000) (h:i.length≤1000) (q:Q (.str (mulS i k.toNat)) H):jkj (.str i) (.int k) H Q:=.inr ⟨i,k,rfl,rfl,k0,k1,h,q⟩
theorem r_leWI {i j:Int} (q:Q (.bl (decide (i≤j))) H):rLeW (.int i) (.int j) H Q:=.inl (r_I0 q)
theorem r_leWS {i j:Str} (q:Q (.bl (!decide (j.cps.toList < i.cps.toList))) H):rLeW (.str i) (.str j) H Q:=.inr ⟨i,j,rfl,rfl,q⟩
theorem ja3 {z:Str} (h:z.length≤1000000) (q:Q (.int z.length) H):jh1 K [.str z] H Q:=.inr ⟨z,rfl,by rw[sizeLine_eq];omega,q⟩
theorem j10 {p:Addr}{xs:List V} (h:H p=some (.lst xs)) (q:Q (.int xs.length) H):jh1 K [.ref p] H Q:=.inl (r_lenL h q)
theorem j0m {p:Addr}{xs:List V} (h:H p=some (.tup xs)) (q:Q (.int xs.length) H):jh1 K [.ref p] H Q:=.inl (r_lenT h q)
theorem jh5 {p:Addr}{xs:List V} (h:SqL K H p xs) (q:Q (.int xs.length) H):jh1 K [.ref p] H Q:=.inl (r_lenS h q)
theorem jh6 {z:Str}{i:Int}{c:Nat} (h:z.length≤1000000) (e:atI z.cps.toList i=some c) (q:Q (.str ⟨#[c]⟩) H):rIx K (.str z) (.int i) H Q:=.inr (.inr ⟨z,i,c,rfl,rfl,by rw[sizeLine_eq];omega,e,q⟩)
theorem j4v {p:Addr}{ss:List Str} (h:H p=some (.tup (ss.map V.str))) (hl:ss.length < 64) (q:∀ l (ss':List Str) H',H l=none→ss'.Perm ss→sortedS ss'=true→H' l=some (.lst (ss'.map V.str))→Ext H H'→Q (.ref l) H'):jc5 K [.ref p] H Q :=
 .inr ⟨p,ss,true,rfl,SqT.of h,hl,fun l ss' n h1 h2=>q l ss' _ n h1 h2 j0a (j1e n)⟩
theorem r_istr {tl:TE}{R:It→Hp→Prop} (q:tl σ H fun x H1=>∃ z,x=.str z∧AscS z∧R (Its z) H1):iStr tl σ H R:=q
end
section
variable {X:Cx}
def tSM (r:V→List V→Hp→VK→Prop) (to:TE) (t:TA):TE:=fun σ H Q=>to σ H fun x H1=>(∃ z,x=.str z)∧t σ H1 fun vs H2=>r x vs H2 Q
theorem j8v {o e:Expr}{es:List Expr}{name:Str}{id:String}{apos cpos:Pos}{r:V→List V→Hp→VK→Prop}{to:TE}{t:TA} (pa:PlainAttrs "str") (slot:Slot "str" name id) (hty:typeOf (.builtin id)=pure (.type "method_descriptor")) (hm:MtM X id r) (ho:PE X o to) (ha:PA X (e :: es) t)
  (hbase:attributeBase o name X.env (eval o X.env)=eval o X.env:=by rfl)
  (hfew:((backTo cpos (starEach (e :: es) X.env)).all (fun x=>!x.1) && (backToKw cpos (keywordEach [] X.env)).all (fun x=>x.1.isSome)
   && decide ((e :: es).length+([]:List Keyword).length+(if ([]:List Keyword).isEmpty then 0 else 1) < 30))=true:=by rfl)
  (hline:(apos.endLine == cpos.line)=true:=by rfl) (hs:starEach (e :: es) X.env=(false,eval e X.env) :: starEach es X.env:=by rfl) (hplain:(backTo cpos (starEach es X.env)).any (·.1)=false:=by rfl) :
  PE X (.Call (.Attribute o name apos) (e :: es) [] cpos) (tSM r to t):=by
 intro pins s σ H Q I h
 refine wpAny_Call_method_late hbase hfew hline rfl (thn (ho pins s σ H _ I h) fun v s1 ⟨x,H1,I1,r1,⟨z,ex⟩,q1⟩=>?_)
 subst ex
 obtain⟨t0,rfl⟩:=r1
 refine⟨"str",id,pa,slot,hty,typeIs_str _ _ _,(fun a e=>nomatch e),?_⟩
 have hA:=ha cpos pins s1 σ H1 _ I1 q1
 rw[hs] at hA ⊢
 refine Calls.callWith_builtin (by show (false || (backTo cpos (starEach es X.env)).any (·.1))=false;rw[hplain] <;> rfl) (Calls.evalArgs_plain ?_)
 exact thn hA fun us s2 ⟨vs,H2,I2,r2,q2⟩=>hm pins s2 σ H2 (.str z) vs (.str z t0) us Q I2 ⟨t0,rfl⟩ r2 q2
end
section
variable {σ:St}{H:Hp}{Q:VK}
theorem r_sm {r:V→List V→Hp→VK→Prop}{to:TE}{t:TA} (q:to σ H fun x H1=>(∃ z,x=.str z)∧t σ H1 fun vs H2=>r x vs H2 Q):tSM r to t σ H Q:=q
theorem r_tyS {z:Str}{R:Prop} (q:R):(∃ z',V.str z=.str z')∧R:=⟨⟨z,rfl⟩,q⟩
end
section
variable {X:Cx}
def tOr2 (t u:TE):TE:=fun σ H Q=>t σ H Q∨u σ H Q
theorem j3z {e:Expr}{t u:TE} (h1:PE X e t) (h2:PE X e u):PE X e (tOr2 t u):=fun pins s σ H Q I h=>h.elim (fun z=>h1 pins s σ H Q I z) fun z=>h2 pins s σ H Q I z
theorem j1w {t u:TE}{σ:St}{H:Hp}{Q:VK} (q:t σ H Q):tOr2 t u σ H Q:=.inl q
theorem j0k {t u:TE}{σ:St}{H:Hp}{Q:VK} (q:u σ H Q):tOr2 t u σ H Q:=.inr q
end
def byT (w:World):Bool:=w.params.followText "set-order"
structure Rise (t:SetTable) (n:Nat) (sl:Nat→Nat):Prop where
 fits:t.fits n=true
 plain:t.plain=true
 zero:sl 0=0
 low:∀ i,i≤n→SetTable.below t.place (sl i)=i
 step:∀ i,i < n→∃ j,t.place[i]?=some j∧j+1=sl (i+1)
end L2
set_option Elab.async false
set_option linter.all false
set_option maxRecDepth 100000
set_option maxHeartbeats 4000000
namespace L2
open PySem PySem.Spec PyProof.Rows PySem.W
end L2
set_option Elab.async false
set_option linter.all false
set_option maxRecDepth 100000
set_option maxHeartbeats 4000000
namespace L2
open PySem PySem.Spec PyProof.Rows PySem.W
def Ris (xs:Array Nat):Prop:=xs.toList.Pairwise (· < ·)
structure Low (xs:Array Nat) (j r:Nat):Prop where
 le:r≤xs.size
 lo:∀ i,i < r→xs.getD i 0 < j
 hi:∀ i,r≤i→i < xs.size→j≤xs.getD i 0
def adv (m:Nat) (p:SetTable.Probe):SetTable.Probe :=
 if p.more > 0 then { p with more:=p.more-1,j:=p.j+1 } else
 { p with j:=(SetTable.leap m p.i p.perturb).1,more:=SetTable.runEnd m (SetTable.leap m p.i p.perturb).1-(SetTable.leap m p.i p.perturb).1,i:=(SetTable.leap m p.i p.perturb).1,perturb:=(SetTable.leap m p.i p.perturb).2 }
def st0 (m:Nat) (h:Int):SetTable.Probe:={ j:=SetTable.bits h % (m+1),more:=SetTable.runEnd m (SetTable.bits h % (m+1))-SetTable.bits h % (m+1),i:=SetTable.bits h % (m+1),perturb:=SetTable.bits h,dummy:=none }
def pth (m:Nat) (h:Int):Nat→SetTable.Probe
 | 0=>st0 m h
 | n+1=>adv m (pth m h n)
theorem jd8 {m:Nat}{h:Int}{n:Nat}{p:SetTable.Probe} (e:pth m h n=p):∀ c,c≤p.more→pth m h (n+c)={ p with j:=p.j+c,more:=p.more-c }
 | 0,_=>e
 | c+1,hc=>by
  show adv m (pth m h (n+c))=_
  rw[jd8 e c (by omega)]
  unfold adv
  rw[if_pos (show p.more-c > 0 by omega)]
  congr 1 <;> omega
def lp (m:Nat) (h:Int):Nat→Nat × Nat
 | 0=>(SetTable.bits h % (m+1),SetTable.bits h)
 | L+1=>SetTable.leap m (lp m h L).1 (lp m h L).2
theorem run_le (m i:Nat):SetTable.runEnd m i-i≤9:=by unfold SetTable.runEnd;split <;> omega
theorem jh7 (m:Nat) (h:Int):∀ L,∃ n,n≤10 * L∧pth m h n={ j:=(lp m h L).1,more:=SetTable.runEnd m (lp m h L).1-(lp m h L).1,i:=(lp m h L).1,perturb:=(lp m h L).2,dummy:=none }
 | 0=>⟨0,Nat.le_refl _,rfl⟩
 | L+1=>by
  obtain⟨n,hn,e⟩:=jh7 m h L
  have r:=run_le m (lp m h L).1
  refine⟨n+(SetTable.runEnd m (lp m h L).1-(lp m h L).1)+1,by omega,?_⟩
  show adv m (pth m h (n+_))=_
  rw[jd8 e _ (Nat.le_refl _)]
  unfold adv
  rw[if_neg (by simp)]
  rfl
theorem jd9 (m:Nat) (h:Int):∀ L,(lp m h L).2=SetTable.bits h / 32 ^ L
 | 0=>by show SetTable.bits h=_;simp
 | L+1=>by
  show (lp m h L).2 / 32=_
  rw[jd9 m h L,Nat.div_div_eq_div_mul,Nat.pow_succ]
theorem jh8 (h:Int):SetTable.bits h < 2 ^ 64:=by unfold SetTable.bits;omega
theorem jh9 (m:Nat) (h:Int) (L:Nat) (hL:13≤L):(lp m h L).2=0:=by
 rw[jd9]
 refine Nat.div_eq_of_lt (Nat.lt_of_lt_of_le (jh8 h) ?_)
 exact Nat.le_trans (by decide) (Nat.pow_le_pow_right (by decide) hL)
def cyc (m:Nat):Nat→Nat→Nat
 | 0,x=>x
 | d+1,x=>(cyc m d x * 5+1) % (m+1)
theorem jha (m:Nat) (h:Int):∀ d,(lp m h (13+d)).1=cyc m d (lp m h 13).1
 | 0=>rfl
 | d+1=>by
  show ((lp m h (13+d)).1 * 5+1+(lp m h (13+d)).2 / 32) % (m+1)=_
  rw[jh9 m h _ (by omega),jha m h d]
  rfl
theorem cyc7:∀ x,x < 8→∀ e,e < 8→∃ d,d < 8∧cyc 7 d x=e:=by decide +kernel
theorem cyc31:∀ x,x < 32→∀ e,e < 32→∃ d,d < 32∧cyc 31 d x=e:=by decide +kernel
theorem j7u (m:Nat):∀ (a b x:Nat),cyc m (a+b) x=cyc m a (cyc m b x)
 | 0,b,x=>by rw[Nat.zero_add];rfl
 | a+1,b,x=>by
  rw[show a+1+b=(a+b)+1 by omega]
  show (cyc m (a+b) x * 5+1) % (m+1)=_
  rw[j7u m a b x]
  rfl
theorem cyc00:∀ e,e < 128→∃ d,d < 128∧cyc 127 d 0=e:=by decide +kernel
theorem cyc127:∀ x,x < 128→∀ e,e < 128→∃ d,d < 128∧cyc 127 d x=e:=fun x hx e he=>by
 obtain⟨p,hp,rfl⟩:=cyc00 x hx
 obtain⟨q,hq,rfl⟩:=cyc00 e he
 by_cases h:p≤q
 ·exact⟨q-p,by omega,by rw[← j7u,Nat.sub_add_cancel h]⟩
 ·refine⟨q+128-p,by omega,?_⟩
  rw[← j7u,show q+128-p+p=q+128 by omega,j7u,show cyc 127 128 0=0 by decide +kernel]
def Msk (m:Nat):Prop:=m=7∨m=31∨m=127
theorem jhb {m:Nat} (hm:Msk m) {x e:Nat} (hx:x < m+1) (he:e≤m):∃ d,d < m+1∧cyc m d x=e:=by
 rcases hm with rfl | rfl | rfl
 ·exact cyc7 _ hx _ (by omega)
 ·exact cyc31 _ hx _ (by omega)
 ·exact cyc127 _ hx _ (by omega)
theorem lp_lt (m:Nat) (h:Int):∀ L,(lp m h L).1 < m+1
 | 0=>Nat.mod_lt _ (Nat.succ_pos _)
 | L+1=>Nat.mod_lt _ (Nat.succ_pos _)
theorem meets {m:Nat} (hm:Msk m) (h:Int) {e:Nat} (he:e≤m):∃ n,n < 10 * (m+14)∧(pth m h n).j=e:=by
 have l:=lp_lt m h 13
 obtain⟨d,hd,hc⟩:=jhb hm l he
 obtain⟨n,hn,q⟩:=jh7 m h (13+d)
 exact⟨n,by omega,by rw[q];show (lp m h (13+d)).1=e;rw[jha,hc]⟩
structure Tab (t:SetTable) (es:Array (Int × Value)):Prop where
 mask:Msk t.mask
 dum:t.dummies=#[]
 ris:Ris t.place
 size:t.place.size=es.size
 room:es.size * 5 < t.mask * 3
 top:∀ j∈t.place.toList,j≤t.mask
 way:∀ (i:Nat) (hi:i < es.size),∃ N,(pth t.mask es[i].1 N).j=t.place.getD i 0∧∀ m,m < N→(pth t.mask es[i].1 m).j∈t.place.toList
section
variable {prog:Program}{w:World}{A:Around}{E:Value→Shared→Prop}{s:Shared}
structure Asks (prog:Program) (w:World) (A:Around) (E:Value→Shared→Prop) (s:Shared) (es:Array (Int × Value)) (x:Value) (hash:Int) {K:Type} [DecidableEq K] (key:Nat→K) (k:K):Prop where
 hsh:∀ (i:Nat) (hi:i < es.size),key i=k→es[i].1=hash
 eq:∀ (i:Nat) (hi:i < es.size) (Q:Bool→Shared→Prop),Q (decide (key i=k)) s→wpAny (model prog w) A (eqBool es[i].2 x) Q E s
 ref:∀ (i:Nat) (hi:i < es.size),∃ a,es[i].2=.ref a
 seen:∀ (l:List Value),(∀ y∈l,∃ (i:Nat) (hi:i < es.size),y=es[i].2)→∀ Q:Bool→Shared→Prop,Q false s→wpAny (model prog w) A (searchCouldBeSeen x l) Q E s
end
abbrev OwnA:=Array (Option Nat)
structure LaidT (m:Nat) (hs:List Int) (ow:OwnA):Prop where
 size:ow.size=m+1
 perm:(ow.toList.filterMap id).Perm (List.range hs.length)
 way:∀ j i,ow[j]?=some (some i)→∃ h,hs[i]?=some h∧∃ N,(pth m h N).j=j∧∀ q,q < N→(ow.getD (pth m h q).j (some 0)).isNone=false
section
variable {prog:Program}{w:World}{A:Around}{E:Value→Shared→Prop}{s:Shared}
def RowE (prog:Program) (w:World) (Z:Addr→List Int→Prop) (h:Heap) (e:Int × Value) (L:List Int):Prop:=∃ a,e.2=.ref a∧IsTupleKey (intKind prog w) h L a∧e.1=tupleKeyHash (intKind prog w) L∧Z a L
inductive RowsE (prog:Program) (w:World) (Z:Addr→List Int→Prop) (h:Heap):List (Int × Value)→List (List Int)→Prop
 | nil:RowsE prog w Z h [] []
 | cons {e:Int × Value}{L:List Int}{es:List (Int × Value)}{Ls:List (List Int)}:RowE prog w Z h e L→RowsE prog w Z h es Ls→RowsE prog w Z h (e :: es) (L :: Ls)
end
end L2
set_option Elab.async false
set_option linter.all false
set_option maxRecDepth 100000
set_option maxHeartbeats 4000000
namespace L2
open PySem PySem.Spec PyProof.Rows PySem.W
inductive RowsV (prog:Program) (w:World) (Z:Addr→List Int→Prop) (h:Heap):List Value→List (List Int)→Prop
 | nil:RowsV prog w Z h [] []
 | cons {a:Addr}{L:List Int}{vs:List Value}{Ls:List (List Int)}:IsTupleKey (intKind prog w) h L a→Z a L→RowsV prog w Z h vs Ls→RowsV prog w Z h (.ref a :: vs) (L :: Ls)
inductive RefsH (H:Hp):List V→List (List Int)→Prop
 | nil:RefsH H [] []
 | cons {a:Addr}{L:List Int}{vs:List V}{Ls:List (List Int)}:H a=some (.tup (L.map V.int))→RefsH H vs Ls→RefsH H (.ref a :: vs) (L :: Ls)
end L2
set_option Elab.async false
set_option linter.all false
set_option maxRecDepth 100000
set_option maxHeartbeats 4000000
namespace L2
open PySem PySem.Spec PyProof.Rows PySem.W
def jhc (p q:List Int × Int):Prop:=p.1 < q.1∨(p.1=q.1∧p.2 < q.2)
instance (p q:List Int × Int):Decidable (jhc p q):=by unfold jhc;infer_instance
inductive PairsAt (prog:Program) (w:World) (h:Heap):List Value→List (List Int × Int)→Prop
 | nil:PairsAt prog w h [] []
 | cons {c a:Addr}{L:List Int}{x:Int}{t:Tok}{vs:List Value}{Ks:List (List Int × Int)}:IsTup h c #[.ref a,.int x t]→IsTupleKey (intKind prog w) h L a→PairsAt prog w h vs Ks→PairsAt prog w h (.ref c :: vs) ((L,x) :: Ks)
end L2
set_option Elab.async false
set_option linter.all false
set_option maxRecDepth 100000
set_option maxHeartbeats 4000000
namespace L2
open PySem PySem.Spec PyProof.Rows PySem.W
inductive PairsH (H:Hp):List V→List (List Int × Int)→Prop
 | nil:PairsH H [] []
 | cons {c a:Addr}{L:List Int}{x:Int}{vs:List V}{Ks:List (List Int × Int)}:H c=some (.tup [.ref a,.int x])→H a=some (.tup (L.map V.int))→PairsH H vs Ks→PairsH H (.ref c :: vs) ((L,x) :: Ks)
section
variable {X:Cx}
open Classical in
end
structure LamOk (X:Cx) (scope:Scope) (cl:List (Str × Addr)) (x:Str) (fr:List Str) (js:List Nat):Prop where
 kind:scope.kind=.function
 co:scope.isCoroutine=false
 gen:scope.isGenerator=false
 nc:∀ y∈scope.names,y.2≠.cell
 par:scope.names.lookup x=some .local
 clos:j35 X.env.cells scope.names []=some cl
 frees:Frees X scope fr js
section
variable {X:Cx}{pins:List (Addr × Obj)}{σ:St}{H:Hp}{s:Shared}
structure Keyed (X:Cx) (A:Around) (σ:St) (KR:Hp→V→Nat→Prop) (lt:Nat→Nat→Bool):Prop where
 ext:∀ {H H':Hp}{v:V}{i:Nat},Ext H H'→KR H v i→KR H' v i
 cmp:∀ {pins:List (Addr × Obj)}{H:Hp}{s:Shared}{v1 v2:V}{u1 u2:Value}{i j:Nat}{Q:Value→Shared→Prop}{E:Value→Shared→Prop},Inv X pins σ H s→KR H v1 i→RelV v1 u1→KR H v2 j→RelV v2 u2→Q (.bool (lt i j)) s →
  wpAny (model X.prog X.w) A (richCompare .Lt u1 u2) Q E s
structure Turns (X:Cx) (A:Around) (pins:List (Addr × Obj)) (σ:St) (KR:Hp→V→Nat→Prop) (G:Hp→Prop) (q l:Addr) (xs:List V) (tp:Bool):Prop where
 ext:∀ {H H':Hp},Ext H H'→G H→G H'
 src:∀ {H:Hp},G H→SqE X.K H l xs tp
 turn:∀ {ps:List (Addr × Obj)}{H:Hp}{s:Shared}{i:Nat}{x:V}{u:Value}{E:Value→Shared→Prop},(∀ p∈pins,p∈ps)→Inv X ps σ H s→G H→xs[i]?=some x→RelV x u →
  wpAny (model X.prog X.w) A (call (.ref q) [u]) (EP X ps σ fun kv H'=>KR H' kv i∧Ext H H') E s
variable {A:Around}{KR:Hp→V→Nat→Prop}{lt:Nat→Nat→Bool}{G:Hp→Prop}{l q It S:Addr}{xs:List V}{tp:Bool}{R:Result→Shared→Prop}
end
abbrev LA (α:Type):=List (Addr × Obj)→Addr→Addr→Shared→Hp→α
structure NoC (K:PySem.W.Frag) (C B:Addr):Prop where
 ha:PySem.W.findIn K (.ref C) "__class__"=some (some (.builtin "object.__class__"))
 hn:PySem.W.specialIn K (.builtin "object.__class__") "__get__"=some (some (.builtin "getset_descriptor.__get__"))
 htk:PySem.W.takesIn K (.builtin "object.__class__")=some true
 hm:PySem.W.mroIn K C (.type "object")=some true
 ki:PySem.W.kitOne K (.ref C) (.ref B)=some false
structure RiseG (w:World) (t:SetTable) (n:Nat) (sl:Nat→Nat):Prop where
 fits:t.fits n=true
 dr:byT w=false→(!t.plain && decide (n > 1))=false
 zero:sl 0=0
 low:∀ i,i≤n→SetTable.below t.place (sl i)=i
 step:∀ i,i < n→∃ j,t.place[i]?=some j∧j+1=sl (i+1)
section
variable {prog:Program}{w:World}{A:Around}{E:Value→Shared→Prop}{s:Shared}
def RowET (prog:Program) (w:World) (Z:Addr→List Str→Prop) (h:Heap) (e:Int × Value) (L:List Str):Prop:=∃ a,e.2=.ref a∧IsTupleKey (PySem.strKind prog w) h L a∧e.1=tupleKeyHash (PySem.strKind prog w) L∧Z a L
inductive RowsET (prog:Program) (w:World) (Z:Addr→List Str→Prop) (h:Heap):List (Int × Value)→List (List Str)→Prop
 | nil:RowsET prog w Z h [] []
 | cons {e:Int × Value}{L:List Str}{es:List (Int × Value)}{Ls:List (List Str)}:RowET prog w Z h e L→RowsET prog w Z h es Ls→RowsET prog w Z h (e :: es) (L :: Ls)
end
end L2
set_option Elab.async false
set_option linter.all false
set_option maxRecDepth 100000
set_option maxHeartbeats 4000000
namespace L2
open PySem PySem.Spec PyProof.Rows PySem.W
def cpm (L:List Str):List (List Nat):=L.map fun x=>x.cps.toList
inductive StrsV:List Value→List Str→Prop
 | nil:StrsV [] []
 | cons (n:Str) (t:Tok) {vs:List Value}{ns:List Str}:StrsV vs ns→StrsV (.str n t :: vs) (n :: ns)
inductive RowsVT (prog:Program) (w:World) (Z:Addr→List Str→Prop) (h:Heap):List Value→List (List Str)→Prop
 | nil:RowsVT prog w Z h [] []
 | cons {a:Addr}{L:List Str}{vs:List Value}{Ls:List (List Str)}:IsTupleKey (PySem.strKind prog w) h L a→Z a L→RowsVT prog w Z h vs Ls→RowsVT prog w Z h (.ref a :: vs) (L :: Ls)
inductive RefsHT (H:Hp):List V→List (List Str)→Prop
 | nil:RefsHT H [] []
 | cons {a:Addr}{L:List Str}{vs:List V}{Ls:List (List Str)}:H a=some (.tup (L.map V.str))→RefsHT H vs Ls→RefsHT H (.ref a :: vs) (L :: Ls)
section
open PySem.SeqAt
open PySem.AutoSeq1 (wpAny_loadPart')
open PySem.MeetsSeq PySem.MeetsSeq2 PySem.MeetsSeq3
end
end L2
set_option Elab.async false
set_option linter.all false
set_option maxRecDepth 100000
set_option maxHeartbeats 4000000
namespace L2
open PySem PySem.Spec PyProof.Rows PySem.W
def jda (p q:List Str × Int):Prop:=cpm p.1 < cpm q.1∨(p.1=q.1∧p.2 < q.2)
instance (p q:List Str × Int):Decidable (jda p q):=by unfold jda;infer_instance
inductive PairsAtT (prog:Program) (w:World) (h:Heap):List Value→List (List Str × Int)→Prop
 | nil:PairsAtT prog w h [] []
 | cons {c a:Addr}{L:List Str}{x:Int}{t:Tok}{vs:List Value}{Ks:List (List Str × Int)}:IsTup h c #[.ref a,.int x t]→IsTupleKey (PySem.strKind prog w) h L a→PairsAtT prog w h vs Ks→PairsAtT prog w h (.ref c :: vs) ((L,x) :: Ks)
inductive PairsHT (H:Hp):List V→List (List Str × Int)→Prop
 | nil:PairsHT H [] []
 | cons {c a:Addr}{L:List Str}{x:Int}{vs:List V}{Ks:List (List Str × Int)}:H c=some (.tup [.ref a,.int x])→H a=some (.tup (L.map V.str))→PairsHT H vs Ks→PairsHT H (.ref c :: vs) ((L,x) :: Ks)
section
open PySem.SeqAt
open PySem.AutoSeq1 (wpAny_loadPart')
open PySem.MeetsSeq PySem.MeetsSeq2 PySem.MeetsSeq3
end
inductive IsDc:HO→Prop
 | k (kvs:List (Key × V)):IsDc (.dK kvs)
 | t (kvs:List (List Key × V)):IsDc (.dT kvs)
structure LamC1 (sc:Scope) (x y:Str):Prop where
 kind:sc.kind=.function
 co:sc.isCoroutine=false
 gen:sc.isGenerator=false
 nc:∀ z∈sc.names,z.2≠.cell
 par:sc.names.lookup x=some .local
 fre:sc.names.lookup y=some .free
 only:∀ z∈sc.names,z.2=.free→z.1=y
structure LamC2 (sc:Scope) (x y:Str) (rest:List (Str × NameKind)):Prop where
 kind:sc.kind=.function
 co:sc.isCoroutine=false
 gen:sc.isGenerator=false
 names:sc.names=(x,.cell) :: rest
 nc:∀ z∈rest,z.2≠.cell
 ne:x≠y
 fre:sc.names.lookup y=some .free
 only:∀ z∈sc.names,z.2=.free→z.1=y
abbrev LAC (α:Type):=List (Addr × Obj)→Addr→Addr→Shared→Addr→Hp→α
inductive IntsE:List (Int × Value)→List Int→Prop
 | nil:IntsE [] []
 | cons {n:Int}{t:Tok}{es:List (Int × Value)}{ns:List Int}:IntsE es ns→IntsE ((hashInt n,.int n t) :: es) (n :: ns)
section
variable {X:Cx}
open Classical in
end
section
variable {X:Cx}
theorem jep {K:PySem.W.Frag}{H:Hp}{Q:VK}{p:Addr}{ns:List Int} (h:H p=some (.tup (ns.map V.int))) (hl:ns.length < 64) (q:∀ l (ns':List Int) H',H l=none→ns'.Perm ns→ns'.Pairwise (·≤·)→H' l=some (.lst (ns'.map V.int))→Ext H H'→Q (.ref l) H'):jc5 K [.ref p] H Q:=.inl (jbv h hl q)
end
end L2
set_option Elab.async false
set_option linter.all false
set_option maxRecDepth 100000
set_option maxHeartbeats 4000000
namespace L2
open PySem PySem.Spec PyProof.Rows PySem.W
section
variable {X:Cx}{k:Nat}{f:Addr}{fd:FuncData}{ps:List Str}{sp:Sp}{dvs:List V}{ds:List Value}{x:Str}{p pos:Pos}{e:Expr}{es:List Expr}{t:TA}
theorem ja4 (F:FnOk X.prog X.w X.K X.mg X.base (CXE X.prog X.w) k f fd ps sp) (hr:Room k X.A) (hg:Gl X x) (hm:X.mg x=some (.ref f)) (hk:PySem.W.keepIn X.K (.ref f)=true) (hb:Binds X.K fd ps ds) (hd:Vals dvs ds)
  (ha:PA X.nox (e :: es) t) (hdb:(x == ("__debug__":Str))=false:=by decide) (he:starEach (e :: es) X.env=(false,eval e X.env) :: starEach es X.env:=by rfl) (hpl:(backTo pos (starEach es X.env)).any (·.1)=false:=by rfl) :
  PEX X (.Call (.Name x p) (e :: es) [] pos) (fun E=>jin sp dvs E t):=by
 intro pins s σ H Q E I h
 skip;refine wpAny_Call_Name_kw (j2h I hg hm ?_ hdb)
 skip;refine PySem.W.callWith_K (h₀:=X.base) I.ok.mod.kin hk (thn (pa_any ha pos I h) fun us s1 ⟨vs,H1,I1,r,q⟩=>⟨I1.kIn,?_⟩) he hpl
 exact jgu F hr hb hd I1 r q
end
theorem r_srtL {K:PySem.W.Frag}{H:Hp}{Q:VK}{p:Addr}{ns:List Int} (h:H p=some (.lst (ns.map V.int))) (hl:ns.length < 64) (q:∀ l (ns':List Int) H',H l=none→ns'.Perm ns→ns'.Pairwise (·≤·)→H' l=some (.lst (ns'.map V.int))→Ext H H'→Q (.ref l) H'):jc5 K [.ref p] H Q:=.inl (jbu h hl q)
def outS (z:Str) (lo hi:Option Int):Str:=if ((Builtin.Str.strSliceIndices lo hi 1 z.length).length == z.length)=true then z else ⟨((Builtin.Str.strSliceIndices lo hi 1 z.length).filterMap (z.cps[·]?)).toArray⟩
section
variable {X:Cx}
def rSlE:V→Option Int→Option Int→Hp→VK→Prop:=fun x lo hi H Q=>∃ z:Str,x=.str z∧z.length≤1000000∧Q (.str (outS z lo hi)) H
theorem j68:SlR X rSlE:=by
 skip;intro pins s σ H x v vl vu lo hi sl Q I rx hs pl pu h
 obtain⟨z,rfl,hz,q⟩:=h
 obtain⟨t,rfl⟩:=rx
 refine⟨"str",_,F.slot_str_getitem.lookup,typeIs_str _ _ _,?_⟩
 have part:∀ {v:Value}{o:Option Int},IsPart v o→∃ l:Option (Int × Tok),v=partValue l∧l.map (·.1)=o:=fun p=>by
  cases p with
  | none=>exact⟨none,rfl,rfl⟩
  | int i t=>exact⟨some (i,t),rfl,rfl⟩
 obtain⟨l,e1,f1⟩:=part pl
 obtain⟨u,e2,f2⟩:=part pu
 have hs':s.heap.IsSlice sl l u none:=by
  obtain⟨o,h1,h2,h3⟩:=hs
  exact⟨o,h1,h2,by rw[h3,e1,e2];rfl⟩
 refine wpAny_getItem_str_slice hs' rfl ?_
 have hp:slicePicked z l u none=Builtin.Str.strSliceIndices lo hi 1 z.length:=by
  unfold slicePicked
  rw[f1,f2]
  rfl
 unfold sliceMade
 rw[hp]
 unfold outS at q
 have he:(((Option.map (fun x:Int × Tok=>x.fst) none).getD 1 == 1 && (Builtin.Str.strSliceIndices lo hi 1 z.length).length == z.length):Bool)=((Builtin.Str.strSliceIndices lo hi 1 z.length).length == z.length):=rfl
 rw[he]
 split
 ·rename_i c
  rw[if_pos c] at q
  exact⟨.str z,H,I,⟨t,rfl⟩,q⟩
 ·rename_i c
  rw[if_neg c] at q
  have hle:((Builtin.Str.strSliceIndices lo hi 1 z.length).filterMap (z.cps[·]?)).length≤z.length:=Nat.le_trans (List.length_filterMap_le _ _) (sliceIndices_le _ _ _)
  refine⟨?_,.str _,H,I.tok _,⟨_,rfl⟩,q⟩
  rw[sizeLine_eq]
  show ((Builtin.Str.strSliceIndices lo hi 1 z.length).filterMap (z.cps[·]?)).toArray.size≤_
  rw[List.size_toArray]
  omega
theorem jhd {H:Hp}{Q:VK}{z:Str}{lo hi:Option Int} (h:z.length≤1000000) (q:Q (.str (outS z lo hi)) H):rSlE (.str z) lo hi H Q:=⟨z,rfl,h,q⟩
end
theorem valsQ:∀ l:List (Str × Tok),Vals ((l.map (·.1)).map V.str) (strValues l)
 | []=>.nil
 | (x,t) :: r=>.cons ⟨t,rfl⟩ (valsQ r)
theorem qVals:∀ {zs:List Str}{us:List Value},Vals (zs.map V.str) us→∃ l:List (Str × Tok),us=strValues l∧l.map (·.1)=zs
 | [],_,h=>by cases h;exact⟨[],rfl,rfl⟩
 | z :: r,_,h=>by
  cases h with
  | cons h1 h2 =>
   obtain⟨t,rfl⟩:=h1
   obtain⟨l,rfl,e⟩:=qVals h2
   exact⟨(z,t) :: l,rfl,by rw[List.map_cons,e]⟩
theorem ja5 {prog:Program}{w:World}{A:Around}{E:Value→Shared→Prop}{s:Shared}{Q:Value→Shared→Prop}{x:Str}{c:Nat}{t u:Tok} (hx:x.length≤1000000)
  (h:∀ (l:List (Str × Tok)) (k:Nat),l.map (·.1)=Txt.split x ⟨#[c]⟩→Q (.ref s.heap.objs.size) { s with toks:=k,heap:=s.heap.push { cls:=.type "list",data:=.seq (strValues l).toArray } }) :
  wpAny (model prog w) A (call (.builtin "str.split") [.str x t,.str ⟨#[c]⟩ u]) Q E s:=by
 have one:∀ m:Meets (Builtin.«str.split» ⟨[.str x t,.str ⟨#[c]⟩ u],[]⟩) (listOfItself x t),[x]=Txt.split x ⟨#[c]⟩→wpAny (model prog w) A (call (.builtin "str.split") [.str x t,.str ⟨#[c]⟩ u]) Q E s:=fun m e =>
  call_meets F.slot_str_split (typeIs_str _ _ _) F.entry_str_split (F.args_str_split_2 _ _) m (h [(x,t)] s.toks e)
 cases h1:(decide (x.length < (⟨#[c]⟩:Str).length) || decide (Builtin.Str.strKind x < Builtin.Str.strKind ⟨#[c]⟩)) with
 | true=>exact one (meets_str_split_cannot_occur x _ t u h1) (if_pos h1).symm
 | false =>
  cases hf:(Builtin.Str.occurrences x ⟨#[c]⟩ 0 x.length (x.length+1)).isEmpty with
  | true=>exact one (meets_str_split_not_found x _ t u h1 rfl hf) ((if_neg (ne_true_of_eq_false h1)).trans (if_pos hf)).symm
  | false =>
   have e:Txt.split x ⟨#[c]⟩=Builtin.Str.partsBetween x (Builtin.Str.occurrences x ⟨#[c]⟩ 0 x.length (x.length+1)) (⟨#[c]⟩:Str).length:=(if_neg (ne_true_of_eq_false h1)).trans (if_neg (ne_true_of_eq_false hf))
   have hn:=split_le x ⟨#[c]⟩
   rw[e] at hn
   refine call_meets F.slot_str_split (typeIs_str _ _ _) F.entry_str_split (F.args_str_split_2 _ _) (meets_str_split_sep x _ t u h1 rfl hf (by rw[sizeLine_eq];omega) (by rw[sizeLine_eq];omega)) ?_
   have q:=h (numbered s.toks (Builtin.Str.partsBetween x (Builtin.Str.occurrences x ⟨#[c]⟩ 0 x.length (x.length+1)) (⟨#[c]⟩:Str).length)) (s.toks+(Builtin.Str.partsBetween x (Builtin.Str.occurrences x ⟨#[c]⟩ 0 x.length (x.length+1)) (⟨#[c]⟩:Str).length).length) ((numbered_texts _ _).trans e.symm)
   rw[← strsFrom_eq] at q
   exact q
section
variable {X:Cx}
def jhe:V→List V→Hp→VK→Prop:=fun x vs H Q=>∃ (z:Str) (c:Nat),x=.str z∧vs=[.str ⟨#[c]⟩]∧z.length≤1000000∧∀ p,H p=none→Q (.ref p) (upd H p (.lst ((Txt.split z ⟨#[c]⟩).map V.str)))
theorem ja6:MtM X "str.split" jhe:=by
 intro pins s σ H x vs v us Q I rx rv h
 obtain⟨z,c,rfl,rfl,hz,q⟩:=h
 obtain⟨t0,rfl⟩:=rx
 obtain⟨u,rfl,t,rfl⟩:=rv.one
 refine ja5 hz fun l k e=>?_
 have hf:H s.heap.objs.size=none:=I.hok.fresh (Nat.le_refl _)
 refine⟨.ref s.heap.objs.size,_,I.laid (t':=k) (o:=.lst ((Txt.split z ⟨#[c]⟩).map V.str)) (fun b u e=>Heap.get?_push_of_some _ e) (Nat.le_refl _) ?_,rfl,q _ hf⟩
 refine⟨?_,strValues l,0,?_,Heap.get?_push_size _ rfl⟩
 ·have:=split_le z ⟨#[c]⟩
  rw[List.length_map,sizeLine_eq]
  omega
 ·rw[← e]
  exact valsQ l
def jdb:V→List V→Hp→VK→Prop:=fun x vs H Q=>∃ z y:Str,x=.str z∧vs=[.str y]∧Q (.bl (Txt.startswith z y)) H
theorem jc6:MtM X "str.startswith" jdb:=by
 intro pins s σ H x vs v us Q I rx rv h
 obtain⟨z,y,rfl,rfl,q⟩:=h
 obtain⟨t0,rfl⟩:=rx
 obtain⟨u,rfl,t,rfl⟩:=rv.one
 exact SC.startswith ⟨.bl _,H,I,rfl,q⟩
def rJoin:V→List V→Hp→VK→Prop:=fun x vs H Q=>∃ (z:Str) (p:Addr) (zs:List Str),x=.str z∧vs=[.ref p]∧H p=some (.lst (zs.map V.str))∧JoinOk z zs=true∧Q (.str (Str.join z zs)) H
theorem j2p:MtM X "str.join" rJoin:=by
 intro pins s σ H x vs v us Q I rx rv h
 obtain⟨z,p,zs,rfl,rfl,hp,ok,q⟩:=h
 obtain⟨t0,rfl⟩:=rx
 obtain⟨u,rfl,ru⟩:=rv.one
 cases ru
 obtain⟨its,r,l2,_⟩:=I.list (SqL.of (K:=X.K) hp)
 obtain⟨l,rfl,e⟩:=qVals r
 refine SC.join l2.isList e ok fun t' k=>?_
 have eq:Txt.join z zs=Str.join z zs:=StrLaws.glued_eq_join z zs
 rw[eq]
 exact⟨.str _,H,I.tok _,⟨t',rfl⟩,q⟩
def rIntS:List V→Hp→VK→Prop:=fun xs H Q=>∃ (z:Str) (n:Int),xs=[.str z]∧PySem.intText? z=some n∧z.length≤640∧Q (.int n) H
theorem cIntS:CallR X (.type "int") rIntS:=by
 intro pins s σ H xs us Q I r h
 obtain⟨z,n,rfl,hn,hl,q⟩:=h
 obtain⟨u,rfl,t,rfl⟩:=j8a r
 exact PySem.W.KIN.call_text hn hl ⟨.int n,H,I.tok _,⟨_,rfl⟩,q⟩
def txI (n:Int):Str:=Str.ofString (toString n)
def jks:List V→Hp→VK→Prop:=fun xs H Q=>(∃ n:Int,xs=[.int n]∧n.natAbs.log2 < 1920∧Q (.str (txI n)) H)∨∃ z:Str,xs=[.str z]∧Q (.str z) H
theorem jkt:CallR X (.type "str") jks:=by
 intro pins s σ H xs us Q I r h
 rcases h with⟨n,rfl,hl,q⟩ | ⟨z,rfl,q⟩
 ·obtain⟨u,rfl,t,rfl⟩:=j8a r
  exact P.str_of_int hl ⟨.str (txI n),H,I.tok _,⟨_,rfl⟩,q⟩
 ·obtain⟨u,rfl,t,rfl⟩:=j8a r
  exact P.str_of_str ⟨.str z,H,I,⟨t,rfl⟩,q⟩
end
section
variable {H:Hp}{Q:VK}
theorem jdc {z:Str}{c:Nat} (hz:z.length≤1000000) (q:∀ p H',H p=none→H' p=some (.lst ((Txt.split z ⟨#[c]⟩).map V.str))→Ext H H'→Q (.ref p) H'):jhe (.str z) [.str ⟨#[c]⟩] H Q:=⟨z,c,rfl,rfl,hz,fun p n=>q p _ n j0a (j1e n)⟩
theorem jeq {z y:Str} (q:Q (.bl (Txt.startswith z y)) H):jdb (.str z) [.str y] H Q:=⟨z,y,rfl,rfl,q⟩
theorem j3g {z:Str}{p:Addr}{zs:List Str} (h:H p=some (.lst (zs.map V.str))) (ok:JoinOk z zs=true) (q:Q (.str (Str.join z zs)) H):rJoin (.str z) [.ref p] H Q:=⟨z,p,zs,rfl,rfl,h,ok,q⟩
theorem jhf {z:Str}{n:Int} (h:PySem.intText? z=some n) (hl:z.length≤640) (q:Q (.int n) H):rIntS [.str z] H Q:=⟨z,n,rfl,h,hl,q⟩
theorem ja7 {n:Int} (h:n.natAbs.log2 < 1920) (q:Q (.str (txI n)) H):jks [.int n] H Q:=.inl ⟨n,rfl,h,q⟩
theorem jdd {z:Str} (q:Q (.str z) H):jks [.str z] H Q:=.inr ⟨z,rfl,q⟩
end
def valS (kvs:List (Str × Int)) (k:Str):Option V:=(kvs.find? fun kv=>decide (kv.1=k)).map fun kv=>.int kv.2
def GD (w:World) (K:PySem.W.Frag) (v:Addr) (kvs:List (Str × Int)):Prop :=
 (v == sysModules)=false∧∃ (es:Array DictEntry) (n:Nat),K.lookup v=some { cls:=.type "dict",dict:=none,data:=.dict es n,slots:=#[] } ∧
  Paired (fun (e:DictEntry) (kv:Str × Int)=>e.hash=hashStr w kv.1∧(∃ t,e.key=.str kv.1 t)∧∃ t,e.val=.int kv.2 t) es.toList kvs
theorem jhg {w:World}:∀ {es:List DictEntry}{kvs:List (Str × Int)},Paired (fun (e:DictEntry) (kv:Str × Int)=>e.hash=hashStr w kv.1∧(∃ t,e.key=.str kv.1 t)∧∃ t,e.val=.int kv.2 t) es kvs→∀ k:Str,
  (∀ n,(kvs.find? fun kv=>decide (kv.1=k)).map (·.2)=some n→∃ t,(es.find? fun e=>Value.isStrOf k e.key).map (·.val)=some (.int n t))∧((kvs.find? fun kv=>decide (kv.1=k))=none→(es.find? fun e=>Value.isStrOf k e.key)=none):=by
 intro es kvs h k
 induction h with
 | nil=>exact⟨fun n e=>by simp at e,fun _=>rfl⟩
 | @cons e kv es kvs h1 h2 ih =>
  obtain⟨_,⟨t,hk⟩,u,hv⟩:=h1
  have hb:Value.isStrOf k e.key=decide (kv.1=k):=by rw[hk];show (kv.1 == k)=_;by_cases c:kv.1=k <;> simp[c]
  by_cases c:kv.1=k
  ·rw[List.find?_cons_of_pos (by simpa using c),List.find?_cons_of_pos (by rw[hb];simpa using c)]
   exact⟨fun n e'=>⟨u,by injection e' with e';subst e';exact congrArg some hv⟩,fun z=>by cases z⟩
  ·rw[List.find?_cons_of_neg (by simpa using c),List.find?_cons_of_neg (by rw[hb];simpa using c)]
   exact ih
section
variable {X:Cx}
def tGetG (kvs:List (Str × Int)) (ty tx:TE):TE:=fun σ H Q=>ty σ H fun y H1=>tx σ H1 fun z H2=>∃ k:Str,y=.str k∧Q ((valS kvs k).getD z) H2
theorem jhh {o e f:Expr}{apos cpos:Pos}{v:Addr}{kvs:List (Str × Int)}{ty tx:TE} (g:GD X.w X.K v kvs) (ho:PE X o (tC (.ref v))) (he:PE X e ty) (hf:PE X f tx) (m:M2 X o "get" apos e f cpos):PE X (.Call (.Attribute o "get" apos) [e,f] [] cpos) (tGetG kvs ty tx):=by
 intro pins s σ H Q I h
 refine wpAny_Call_method m.base m.few m.line PySem.F.plainAttrs_dict PySem.F.slot_dict_get PySem.F.type_dict_get (thn (ho pins s σ H (fun x H1=>x=.ref v∧ty σ H1 fun y H1=>tx σ H1 fun z H2=>∃ k:Str,y=.str k∧Q ((valS kvs k).getD z) H2) I ⟨rfl,h⟩) fun u s1 ⟨x,H1,I1,rx,ex,q1⟩=>?_)
 subst ex
 obtain rfl:u=Value.ref v:=rx
 obtain⟨hs,es,n,hl,pr⟩:=g
 have at1:=I1.kIn _ _ hl
 refine⟨⟨_,at1,rfl⟩,fun b q=>by cases q;exact⟨_,at1,rfl⟩,?_⟩
 rw[m.trees]
 refine Calls.callWith_builtin rfl (Calls.evalArgs_plain (Calls.spliced_cons (thn (he pins s1 σ H1 _ I1 q1) fun iv s2 ⟨y,H2,I2,ry,q2⟩ =>
  Calls.spliced_cons (thn (hf pins s2 σ H2 _ I2 q2) fun fv s3 ⟨z,H3,I3,rz,k,ey,q3⟩=>Calls.spliced_nil ?_))))
 subst ey
 have at3:=I3.kIn _ _ hl
 have mp:s3.heap.MapOf (j1y X.prog X.w) v (findBy (j1y X.prog X.w).is es):=by
  refine⟨_,es,n,at3,⟨rfl,rfl,rfl⟩,rfl,fun e he=>?_,fun _=>rfl⟩
  have all:∀ {l:List DictEntry}{m:List (Str × Int)},Paired (fun (e:DictEntry) (kv:Str × Int)=>e.hash=hashStr X.w kv.1∧(∃ t,e.key=.str kv.1 t)∧∃ t,e.val=.int kv.2 t) l m→∀ e∈l,∃ k,(j1y X.prog X.w).is k e.key=true∧e.hash=(j1y X.prog X.w).hash k:=by
   intro l m q
   induction q with
   | nil=>intro x hx;exact nomatch hx
   | @cons p q ps qs hq t ih =>
    intro x hx
    rcases List.mem_cons.mp hx with e | hx
    ·subst e
     obtain⟨h1,⟨t,h2⟩,_⟩:=hq
     exact⟨.inr q.1,by rw[h2];exact j79 q.1 t,h1⟩
    ·exact ih x hx
  exact all pr e (Array.mem_toList_iff.mpr he)
 refine call_meetsIn PySem.F.slot_dict_get ⟨_,at3,rfl⟩ PySem.F.entry_dict_get (PySem.F.args_dict_get_3 _ _ _) (meets_dict_get_default (j1y X.prog X.w) v (kV_is (k:=.inr k) ry) hs fv) ⟨_,mp,_,H3,I3.tok _,?_,q3⟩
 obtain⟨f1,f2⟩:=jhg pr k
 have e0:findBy (j1y X.prog X.w).is es (Sum.inr k)=(es.toList.find? fun e=>Value.isStrOf k e.key).map (·.val):=by
  obtain⟨l⟩:=es
  show ((l.toArray.find? fun e=>Value.isStrOf k e.key).map (·.val))=_
  rw[List.find?_toArray]
 rw[e0]
 unfold valS
 cases c:kvs.find? fun kv=>decide (kv.1=k) with
 | none=>rw[f2 c];exact rz
 | some kv =>
  obtain⟨t,e1⟩:=f1 kv.2 (by rw[c];rfl)
  rw[e1]
  exact⟨t,rfl⟩
end
section
variable {σ:St}{H:Hp}{Q:VK}
theorem r_getG {kvs:List (Str × Int)}{ty tx:TE} (q:ty σ H fun y H1=>tx σ H1 fun z H2=>∃ k:Str,y=.str k∧Q ((valS kvs k).getD z) H2):tGetG kvs ty tx σ H Q:=q
end
theorem jc7 {K:PySem.W.Frag}{ts:List TT}{te:TE}{acc:Addr}{fr:St}{H1:Hp}{R:Hp→Prop}{xs:List V}{p:Addr}{u v:Option V} (hx:H1 p=some (.lst xs)) (hz:xs.length≤1000000) (hn:H1 acc=none) (Pv:Nat→List V→Hp→Prop) (h0:Pv 0 [] H1) (kp:∀ i ys H H',Kp H H'→Pv i ys H→Pv i ys H') (len:∀ i ys H,i≤xs.length→Pv i ys H→ys.length≤i)
  (turn:∀ i x ys H H',xs[i]?=some x→Ext H1 H→Ext H H'→Pv i ys H→j9j ts te (Pv (i+1)) ys H (some (.int (i:Nat)) :: some x :: fr) H')
  (fin:∀ ys H,Ext H1 H→H acc=some (.lst ys)→Pv xs.length ys H→R H):j7n (Ite2 K false p) (gTup K 2 (jik (j7a 0) (jik (j7a 1) gNil))) ts te acc (u :: v :: fr) H1 R:=by
 have hq:∀ H,Ext H1 H→SqE K H p xs false:=fun H e=>SqL.of (K:=K) (e _ _ hx)
 refine j3e xs.length hz hn (fun σ=>∃ u v,σ=u :: v :: fr) Pv ⟨u,v,rfl⟩ h0 kp (fun i H hi e=>⟨xs,hq H e,hi⟩) (fun H e=>⟨xs,hq H e,Nat.le_refl _⟩) len ?_ fin
 rintro i σ ys H x H' G hi e ⟨u,v,rfl⟩ pv ⟨r,y1,nr,rfl,rfl,y⟩ hG
 exact⟨r,[.int (i:Nat),y1],rfl,SqT.of j0a,rfl,_,[y1],rfl,y1,[],rfl,rfl,hG _ _ ⟨_,_,rfl⟩ (turn i y1 ys _ _ (y xs (hq H e)) e (j1e nr) pv)⟩
def tTryN (K:PySem.W.Frag) (L:Addr) (tb:XK→TS) (ts:Addr→TS):TS:=fun D σ H =>
 tb (fun C dx H'=>∃ c,C=.ref c∧Catch K c L∧∀ x,H' x=none→ts x D σ (upd H' x (errH x C dx))) D σ H
theorem jhi {X:Cx}{body suite:List Stmt}{b₀:Stmt}{lx:Str}{L:Addr}{tb:XK→TS}{ts:Addr→TS}{p0 pos pos':Pos} (O:Own X) (hg:Gl X lx) (hm:X.mg lx=some (.ref L))
  (hb:PSXs X body tb) (hs:∀ a,PSs (X.inEx a).nox (b₀ :: suite) (ts a)) (hdb:(lx == ("__debug__":Str))=false:=by decide) :
  PS X (.Try body [.ExceptHandler (some (.Name lx p0)) none (b₀ :: suite) pos'] [] [] pos) (tTryN X.K L tb ts):=by
 intro pins s σ H D I h
 refine wpAny_Try_except (wpAny_mono (hb pins s σ H D _ I h) (fun f s1 z=>?_) fun e s1 z=>?_)
 ·cases f with
  | next=>exact wpAny_execs_nil z
  | brk=>exact z
  | cont=>exact z
  | ret u=>exact z
 obtain⟨n,H1,a,C,dx,rfl,hsz,hpn,I1,er,c,rfl,hc,q⟩:=z
 have fr:X.A.frames=some (X.env :: X.outer):=by rw[← O.stk];exact I.ok.frames
 have fs:∀ {σ':St}{H':Hp}{s':Shared},Inv X pins σ' H' s'→s'.heap.FunFrames X.base (X.env :: X.outer):=fun J=>by rw[← O.stk];exact J.stack
 refine j4o fr (fs I1) O.frm er (.inl rfl) (fun b hb=>I1.hok.fresh hb) fun h2 p2 er2 nh2=>?_
 rw[← O.stk] at p2
 have I2:=I1.passedN hsz hpn p2
 have nfr:∀ {σ':St}{H':Hp}{s':Shared},Inv X pins σ' H' s'→∀ b o vs,s'.heap.get? b=some o→o.data=.fields vs→b∉frs X.stack:=fun J b o vs e d hb=>by
  obtain⟨_,o0,e0,nf⟩:=J.stack.mem hb
  rw[e] at e0;cases e0
  exact nf vs d
 refine j2o (s:={ s1 with heap:=h2 }) (fs:=frs X.stack) er2 nh2 (nfr I2) fun h3 p3 er3 nh3=>?_
 have I3:=I2.passedN hsz hpn p3
 refine wpAny_handleBy_cons (codeAny_handlers_test (j2h (X:=X.inEx a) (I3.inEx a) hg hm ?_ hdb)) (by intro z;cases z)
 obtain⟨new3,un3,oe3,vs3,ea3,ec3,rest3⟩:=id er3
 refine jd2 I3.kIn hc ea3 ec3 ?_
 refine codeAny_handlers_suite (j2o (s:={ s1 with heap:=h3 }) (fs:=frs X.stack) er3 nh3 (nfr I3) fun h4 p4 er4 nh4=>?_)
 have I4:=(I3.passedN hsz hpn p4).heldN hsz hpn er4
 refine wpAny_mono (hs a pins _ _ _ D ((I4.inEx a).wish _) (q a er4.un)) (fun f s6 z=>?_) fun _ _ z=>False.elim z
 cases f with
 | next =>
  obtain⟨σ',H',J,k⟩:=z
  exact⟨_,H',J.unwish.outEx I.ok,k⟩
 | brk =>
  obtain⟨σ',H',J,k⟩:=z
  exact⟨_,H',J.unwish.outEx I.ok,k⟩
 | cont =>
  obtain⟨σ',H',J,k⟩:=z
  exact⟨_,H',J.unwish.outEx I.ok,k⟩
 | ret u =>
  obtain⟨v,σ',H',J,r,k⟩:=z
  exact⟨v,_,H',J.unwish.outEx I.ok,r,k⟩
theorem r_tryN {K:PySem.W.Frag}{σ:St}{H:Hp}{D:Ends}{L:Addr}{tb:XK→TS}{ts:Addr→TS} (q:tb (fun C dx H'=>∃ c,C=.ref c∧Catch K c L∧∀ x,H' x=none→ts x D σ (upd H' x (errH x C dx))) D σ H):tTryN K L tb ts D σ H:=q
def FnN (K:PySem.W.Frag) (x:Str) (st:Stmt) (f:Addr):Prop:=PySem.W.nsIn K mainGlobals x=some (some (.ref f))∧∃ fd,Fun K x x st f fd
def FnM (K:PySem.W.Frag) (C:Addr) (x q:Str) (st:Stmt) (f:Addr):Prop:=PySem.W.findIn K (.ref C) x=some (some (.ref f))∧∃ fd,Fun K x q st f fd
def NsC (K:PySem.W.Frag) (x:Str) (C:Addr):Prop:=PySem.W.nsIn K mainGlobals x=some (some (.ref C))
def NsB (K:PySem.W.Frag) (x:Str):Prop:=PySem.W.nsIn K mainGlobals x=some none
theorem Fun.one {K:PySem.W.Frag}{x qual:Str}{st:Stmt}{f:Addr}{fd:FuncData}{n:Str} (F:Fun K x qual st f fd)
  (h:∀ (kV doc pm:Value) (an:Option Addr) (cdv ct:Value) (s:Shared) (v:Value),bindArgs (PySem.W.fnOf x qual (j2l st) (j1q st) (j07 st) .none kV doc pm an cdv ct) ⟨[v],[]⟩=pure [(n,v)]) (s:Shared) (v:Value):BindsTo s fd ⟨[v],[]⟩ [(n,v)]:=by
 obtain⟨oc,od,kV,doc,pm,an,cdv,ct,osl,rfl,lk,hcd⟩:=F.ex
 exact .of_eq (h kV doc pm an cdv ct s v)
def jhj (K:PySem.W.Frag) (C:Addr) (n:Nat) (E:XK) (vs:List V) (H:Hp):Prop:=vs.length≤1000∧∀ x,H x=none→n≤x →
 jir K (.ref x :: (vs++[])) (upd H x (errN x C none)) (fun v H2=>v=.non∧∃ a C' dx bm,V.ref x=.ref a∧H2 a=some (errN a C' dx)∧n≤a∧ErrC K C' bm∧E (.ref C') dx (cut H2 a)) E0
section
variable {K:PySem.W.Frag}{σ:St}{H:Hp}{D:Ends}{E:XK}
theorem jer {C:Addr}{n:Nat}{t:TA} (q:t σ H fun vs H1=>jhj K C n E vs H1):jbi K n E (tErr C n (jir K) [] E0 t) D σ H:=q
theorem j3h {C f:Addr}{bm:List Value}{n:Nat}{v:V} (e:ErrK K C bm f) (h:Tl bm) (q:∀ dx H',H dx=none→H' dx=some (.xd [("row",v)])→Ext H H'→E (.ref C) (some dx) H'):jhj K C n E [v] H:=by
 refine⟨(by decide:1≤1000),fun x hx hn=>⟨x,C,bm,v,rfl,j0a,e.es h,fun dx hd ne=>⟨rfl,x,C,some dx,bm,rfl,j0a,hn,e.ec h,?_⟩⟩⟩
 have hd':H dx=none:=by rwa [j0e ne] at hd
 refine q dx _ hd' ?_ fun b o hb=>?_
 ·rw[j5k ne,j0e ne,j0a]
 ·have nx:b≠x:=fun z=>by rw[z,hx] at hb;cases hb
  have nd:b≠dx:=fun z=>by rw[z,hd'] at hb;cases hb
  rw[j5k nx,j0e nx,j0e nd,j0e nx]
  exact hb
end
theorem errK_mk {K:PySem.W.Frag}{C f:Addr}{bm:List Value}{nm qn:Str}{N:Addr}{bs:List Value}{sn:List Str}{sub:List Value}{ab:Bool}{col:Option Bool}{dd:Option Addr}{k0 k1 k2 k3 k5:Option Value}
  (ka:K.lookup C=some (excClassObj nm qn C N bs bm true sn sub ab col dd k0 k1 k2 k3 k5 "ValueError.__new__")) (kb:PySem.W.findIn K (.ref C) "__init__"=some (some (.ref f))) (kc:PySem.W.isFn K (.ref f)=true) (kd:PySem.W.keepIn K (.ref C)=true)
  (ke:PySem.W.findIn K (.ref C) "__setattr__"=some (some (.builtin "object.__setattr__"))) (kf:PySem.W.findIn K (.ref C) "row"=some none) (kg:PySem.W.findIn K (.ref C) "__getattribute__"=some (some (.builtin "BaseException.__getattribute__"))) (kh:PySem.W.findIn K (.ref C) "__getattr__"=some none)
  (ki:PySem.W.findIn K (.ref C) "__class__"=some (some (.builtin "object.__class__"))) (kj:PySem.W.specialIn K (.builtin "object.__class__") "__get__"=some (some (.builtin "getset_descriptor.__get__"))) (kk:PySem.W.takesIn K (.builtin "object.__class__")=some true) (kl:PySem.W.mroIn K C (.type "object")=some true):ErrK K C bm f :=
 ⟨⟨nm,qn,N,bs,sn,sub,ab,col,dd,k0,k1,k2,k3,k5,ka⟩,kb,kc,kd,ke,kf,kg,kh,ki,kj,kk,kl⟩
abbrev KU:=Key ⊕ List Key
def upK {α:Type} (f:α→KU) (kvs:List (α × V)):List (KU × V):=kvs.map fun kv=>(f kv.1,kv.2)
inductive DU:HO→Bool→List (KU × V)→Prop
 | k (kvs:List (Key × V)):DU (.dK kvs) false (upK .inl kvs)
 | t (kvs:List (List Key × V)):DU (.dT kvs) true (upK .inr kvs)
end L2
namespace Q
open PySem PySem.Spec PyProof.Rows L2
def top (i:Nat):Stmt:=PySem.Challenge.pw_lateknow_k82_game_refused.main.body.getD i (.Pass ⟨0,0,0,0⟩)
abbrev s_z65:Stmt:=top 78
abbrev s_z27:Stmt:=top 74
abbrev s_z57:Stmt:=top 61
abbrev s_z52:Stmt:=top 60
abbrev s_z20:Stmt:=top 62
abbrev s_z54:Stmt:=top 56
abbrev s_z19:Stmt:=top 54
abbrev s_z3:Stmt:=j0q (top 2) 0
abbrev s_z34:Stmt:=top 53
abbrev s_z14:Stmt:=j0q (top 21) 2
abbrev s_z6:Stmt:=top 11
abbrev s_z1:Stmt:=top 8
abbrev s_z11:Stmt:=j0q (top 37) 2
abbrev s_z59:Stmt:=top 12
abbrev s_z18:Stmt:=j0q (top 40) 2
abbrev s_z46:Stmt:=top 9
abbrev s_z16:Stmt:=j0q (top 24) 2
abbrev s_z10:Stmt:=j0q (top 34) 2
abbrev s_z17:Stmt:=j0q (top 30) 2
abbrev s_z55:Stmt:=top 10
abbrev s_z64:Stmt:=top 51
abbrev s_z63:Stmt:=top 50
abbrev s_z25:Stmt:=top 49
abbrev s_z28:Stmt:=top 48
abbrev s_z31:Stmt:=j0q (top 17) 4
abbrev s_z62:Stmt:=top 47
abbrev s_z23:Stmt:=j0q (top 22) 0
abbrev s_z43:Stmt:=j0q (top 17) 0
abbrev s_z7:Stmt:=j0q (top 21) 1
abbrev s_z39:Stmt:=j0q (top 21) 0
abbrev s_z24:Stmt:=j0q (top 38) 0
abbrev s_z5:Stmt:=j0q (top 37) 1
abbrev s_z45:Stmt:=top 13
abbrev s_z33:Stmt:=j0q (top 37) 0
abbrev s_z0:Stmt:=top 14
abbrev s_z15:Stmt:=j0q (top 41) 0
abbrev s_z12:Stmt:=j0q (top 40) 1
abbrev s_z44:Stmt:=j0q (top 40) 0
abbrev s_z29:Stmt:=j0q (top 25) 0
abbrev s_z8:Stmt:=j0q (top 24) 1
abbrev s_z41:Stmt:=j0q (top 24) 0
abbrev s_z30:Stmt:=j0q (top 35) 0
abbrev s_z4:Stmt:=j0q (top 34) 1
abbrev s_z32:Stmt:=j0q (top 34) 0
abbrev s_z40:Stmt:=j0q (top 31) 0
abbrev s_z9:Stmt:=j0q (top 30) 1
abbrev s_z61:Stmt:=top 29
abbrev s_z42:Stmt:=j0q (top 30) 0
abbrev s_z35:Stmt:=top 52
abbrev s_z2:Stmt:=top 55
abbrev s_z37:Stmt:=top 72
abbrev s_z22:Stmt:=top 73
abbrev s_z13:Stmt:=top 70
abbrev s_z26:Stmt:=top 71
abbrev s_z21:Stmt:=top 77
abbrev s_z53:Stmt:=top 68
abbrev s_z60:Stmt:=top 76
abbrev s_z38:Stmt:=top 75
abbrev s_z48:Stmt:=top 59
abbrev s_z56:Stmt:=top 58
abbrev s_z47:Stmt:=top 69
abbrev s_z58:Stmt:=top 67
abbrev s_z36:Stmt:=top 63
abbrev s_z49:Stmt:=top 65
abbrev s_z50:Stmt:=top 64
abbrev s_z51:Stmt:=top 66
set_option genInjectivity false in
structure Adr where
 f_z65:Addr
 d_z65:FuncData
 f_z27:Addr
 d_z27:FuncData
 f_z57:Addr
 d_z57:FuncData
 f_z52:Addr
 d_z52:FuncData
 f_z20:Addr
 d_z20:FuncData
 f_z54:Addr
 d_z54:FuncData
 f_z19:Addr
 d_z19:FuncData
 f_z3:Addr
 d_z3:FuncData
 e_LateError_init:List Value
 f_z34:Addr
 d_z34:FuncData
 f_z14:Addr
 d_z14:FuncData
 f_z6:Addr
 d_z6:FuncData
 f_z1:Addr
 d_z1:FuncData
 f_z11:Addr
 d_z11:FuncData
 f_z59:Addr
 d_z59:FuncData
 f_z18:Addr
 d_z18:FuncData
 f_z46:Addr
 d_z46:FuncData
 f_z16:Addr
 d_z16:FuncData
 f_z10:Addr
 d_z10:FuncData
 f_z17:Addr
 d_z17:FuncData
 f_z55:Addr
 d_z55:FuncData
 f_z64:Addr
 d_z64:FuncData
 f_z63:Addr
 d_z63:FuncData
 f_z25:Addr
 d_z25:FuncData
 f_z28:Addr
 d_z28:FuncData
 f_z31:Addr
 d_z31:FuncData
 f_z62:Addr
 d_z62:FuncData
 f_z23:Addr
 d_z23:FuncData
 f_z43:Addr
 d_z43:FuncData
 f_z7:Addr
 d_z7:FuncData
 f_z39:Addr
 d_z39:FuncData
 f_z24:Addr
 d_z24:FuncData
 f_z5:Addr
 d_z5:FuncData
 f_z45:Addr
 d_z45:FuncData
 f_z33:Addr
 d_z33:FuncData
 f_z0:Addr
 d_z0:FuncData
 f_z15:Addr
 d_z15:FuncData
 e_Changer_init:List Value
 f_z12:Addr
 d_z12:FuncData
 f_z44:Addr
 d_z44:FuncData
 f_z29:Addr
 d_z29:FuncData
 f_z8:Addr
 d_z8:FuncData
 f_z41:Addr
 d_z41:FuncData
 f_z30:Addr
 d_z30:FuncData
 f_z4:Addr
 d_z4:FuncData
 f_z32:Addr
 d_z32:FuncData
 f_z40:Addr
 d_z40:FuncData
 f_z9:Addr
 d_z9:FuncData
 f_z61:Addr
 d_z61:FuncData
 f_z42:Addr
 d_z42:FuncData
 f_z35:Addr
 d_z35:FuncData
 f_z2:Addr
 d_z2:FuncData
 f_z37:Addr
 d_z37:FuncData
 f_z22:Addr
 d_z22:FuncData
 f_z13:Addr
 d_z13:FuncData
 f_z26:Addr
 d_z26:FuncData
 f_z21:Addr
 d_z21:FuncData
 f_z53:Addr
 d_z53:FuncData
 f_z60:Addr
 d_z60:FuncData
 f_z38:Addr
 d_z38:FuncData
 f_z48:Addr
 d_z48:FuncData
 f_z56:Addr
 d_z56:FuncData
 f_z47:Addr
 d_z47:FuncData
 f_z58:Addr
 d_z58:FuncData
 f_z36:Addr
 d_z36:FuncData
 f_z49:Addr
 d_z49:FuncData
 f_z50:Addr
 d_z50:FuncData
 f_z51:Addr
 d_z51:FuncData
 c_LateError:Addr
 c_NoState:Addr
 c_NoWish:Addr
 c_NoText:Addr
 c_TooGreat:Addr
 c_Rule:Addr
 c_Bound:Addr
 c_Bags:Addr
 c_Filler:Addr
 c_Hire:Addr
 c_Buyer:Addr
 c_Line:Addr
 c_Both:Addr
 c_Shelf:Addr
 c_Front:Addr
 c_Store:Addr
 c_Keeper:Addr
 c_Ways:Addr
 c_Changer:Addr
 t_MOST_BAGS:Tok
 t_MOST_ASKS:Tok
 t_MOST_FIGURES:Tok
 v_FIRST_WORDS:Addr
 v_LENGTHS:Addr
structure Txt (w:World) (K:PySem.W.Frag) (mg:Str→Option Value) (a:Adr):Prop where
 F_z65:Fun K "law" "law" s_z65 a.f_z65 a.d_z65
 b_z65:Binds K a.d_z65 ["_law_script"] []
 m_z65:mg "law"=some (.ref a.f_z65)
 F_z27:Fun K "_law_refused" "_law_refused" s_z27 a.f_z27 a.d_z27
 b_z27:Binds K a.d_z27 ["_law_thing","_law_row"] []
 m_z27:mg "_law_refused"=some (.ref a.f_z27)
 F_z57:Fun K "_law_same" "_law_same" s_z57 a.f_z57 a.d_z57
 b_z57:Binds K a.d_z57 ["_law_found","_law_due"] []
 m_z57:mg "_law_same"=some (.ref a.f_z57)
 F_z52:Fun K "_law_whole" "_law_whole" s_z52 a.f_z52 a.d_z52
 b_z52:Binds K a.d_z52 ["_law_found"] []
 m_z52:mg "_law_whole"=some (.ref a.f_z52)
 F_z20:Fun K "_law_all_same" "_law_all_same" s_z20 a.f_z20 a.d_z20
 b_z20:Binds K a.d_z20 ["_law_found","_law_due"] []
 m_z20:mg "_law_all_same"=some (.ref a.f_z20)
 F_z54:Fun K "read_game" "read_game" s_z54 a.f_z54 a.d_z54
 b_z54:Binds K a.d_z54 ["text"] []
 m_z54:mg "read_game"=some (.ref a.f_z54)
 F_z19:Fun K "asked_wishes" "asked_wishes" s_z19 a.f_z19 a.d_z19
 b_z19:Binds K a.d_z19 ["word","world","rows"] []
 m_z19:mg "asked_wishes"=some (.ref a.f_z19)
 F_z3:FunD K "__init__" "LateError.__init__" s_z3 a.f_z3 a.d_z3 a.e_LateError_init
 b_z3:Binds K a.d_z3 ["self","row"] []
 b1_LateError_init:Binds K a.d_z3 ["self","row"] a.e_LateError_init
 w_LateError_init:Vals [.non] a.e_LateError_init
 F_z34:Fun K "asked_wish" "asked_wish" s_z34 a.f_z34 a.d_z34
 b_z34:Binds K a.d_z34 ["word","world","line"] []
 m_z34:mg "asked_wish"=some (.ref a.f_z34)
 F_z14:Fun K "is_wish" "Bags.is_wish" s_z14 a.f_z14 a.d_z14
 b_z14:Binds K a.d_z14 ["self","thing"] []
 F_z6:Fun K "is_from_one_to" "is_from_one_to" s_z6 a.f_z6 a.d_z6
 b_z6:Binds K a.d_z6 ["thing","most"] []
 m_z6:mg "is_from_one_to"=some (.ref a.f_z6)
 F_z1:Fun K "is_whole_number" "is_whole_number" s_z1 a.f_z1 a.d_z1
 b_z1:Binds K a.d_z1 ["thing"] []
 m_z1:mg "is_whole_number"=some (.ref a.f_z1)
 F_z11:Fun K "is_wish" "Store.is_wish" s_z11 a.f_z11 a.d_z11
 b_z11:Binds K a.d_z11 ["self","thing"] []
 F_z59:Fun K "is_name" "is_name" s_z59 a.f_z59 a.d_z59
 b_z59:Binds K a.d_z59 ["thing"] []
 m_z59:mg "is_name"=some (.ref a.f_z59)
 F_z18:Fun K "is_wish" "Ways.is_wish" s_z18 a.f_z18 a.d_z18
 b_z18:Binds K a.d_z18 ["self","thing"] []
 F_z46:Fun K "is_amount" "is_amount" s_z46 a.f_z46 a.d_z46
 b_z46:Binds K a.d_z46 ["thing"] []
 m_z46:mg "is_amount"=some (.ref a.f_z46)
 F_z16:Fun K "is_wish" "Hire.is_wish" s_z16 a.f_z16 a.d_z16
 b_z16:Binds K a.d_z16 ["self","thing"] []
 F_z10:Fun K "is_wish" "Shelf.is_wish" s_z10 a.f_z10 a.d_z10
 b_z10:Binds K a.d_z10 ["self","thing"] []
 F_z17:Fun K "is_wish" "Line.is_wish" s_z17 a.f_z17 a.d_z17
 b_z17:Binds K a.d_z17 ["self","thing"] []
 F_z55:Fun K "is_place" "is_place" s_z55 a.f_z55 a.d_z55
 b_z55:Binds K a.d_z55 ["thing"] []
 m_z55:mg "is_place"=some (.ref a.f_z55)
 F_z64:Fun K "parted" "parted" s_z64 a.f_z64 a.d_z64
 b_z64:Binds K a.d_z64 ["line"] []
 m_z64:mg "parted"=some (.ref a.f_z64)
 F_z63:Fun K "written" "written" s_z63 a.f_z63 a.d_z63
 b_z63:Binds K a.d_z63 ["word"] []
 m_z63:mg "written"=some (.ref a.f_z63)
 F_z25:Fun K "are_figures" "are_figures" s_z25 a.f_z25 a.d_z25
 b_z25:Binds K a.d_z25 ["text"] []
 m_z25:mg "are_figures"=some (.ref a.f_z25)
 F_z28:Fun K "world_start" "world_start" s_z28 a.f_z28 a.d_z28
 b_z28:Binds K a.d_z28 ["word","start"] []
 m_z28:mg "world_start"=some (.ref a.f_z28)
 F_z31:Fun K "state" "Rule.state" s_z31 a.f_z31 a.d_z31
 b_z31:Binds K a.d_z31 ["self"] []
 F_z62:Fun K "rule_of" "rule_of" s_z62 a.f_z62 a.d_z62
 b_z62:Binds K a.d_z62 ["word","start"] []
 m_z62:mg "rule_of"=some (.ref a.f_z62)
 F_z23:Fun K "__init__" "Filler.__init__" s_z23 a.f_z23 a.d_z23
 b_z23:Binds K a.d_z23 ["self","room"] []
 F_z43:Fun K "__init__" "Rule.__init__" s_z43 a.f_z43 a.d_z43
 b_z43:Binds K a.d_z43 ["self","world","start"] []
 F_z7:Fun K "is_state" "Bags.is_state" s_z7 a.f_z7 a.d_z7
 b_z7:Binds K a.d_z7 ["self","thing"] []
 F_z39:Fun K "__init__" "Bags.__init__" s_z39 a.f_z39 a.d_z39
 b_z39:Binds K a.d_z39 ["self","room"] []
 F_z24:Fun K "__init__" "Keeper.__init__" s_z24 a.f_z24 a.d_z24
 b_z24:Binds K a.d_z24 ["self","pages"] []
 F_z5:Fun K "is_state" "Store.is_state" s_z5 a.f_z5 a.d_z5
 b_z5:Binds K a.d_z5 ["self","thing"] []
 F_z45:Fun K "are_names" "are_names" s_z45 a.f_z45 a.d_z45
 b_z45:Binds K a.d_z45 ["thing"] []
 m_z45:mg "are_names"=some (.ref a.f_z45)
 F_z33:Fun K "__init__" "Store.__init__" s_z33 a.f_z33 a.d_z33
 b_z33:Binds K a.d_z33 ["self","many"] []
 F_z0:Fun K "is_row_of_names" "is_row_of_names" s_z0 a.f_z0 a.d_z0
 b_z0:Binds K a.d_z0 ["thing"] []
 m_z0:mg "is_row_of_names"=some (.ref a.f_z0)
 F_z15:FunD K "__init__" "Changer.__init__" s_z15 a.f_z15 a.d_z15 a.e_Changer_init
 b_z15:Binds K a.d_z15 ["self","many","toll","start"] []
 F_z12:Fun K "is_state" "Ways.is_state" s_z12 a.f_z12 a.d_z12
 b_z12:Binds K a.d_z12 ["self","thing"] []
 F_z44:Fun K "__init__" "Ways.__init__" s_z44 a.f_z44 a.d_z44
 b_z44:Binds K a.d_z44 ["self","many","toll"] []
 F_z29:Fun K "__init__" "Buyer.__init__" s_z29 a.f_z29 a.d_z29
 b_z29:Binds K a.d_z29 ["self","whole"] []
 F_z8:Fun K "is_state" "Hire.is_state" s_z8 a.f_z8 a.d_z8
 b_z8:Binds K a.d_z8 ["self","thing"] []
 F_z41:Fun K "__init__" "Hire.__init__" s_z41 a.f_z41 a.d_z41
 b_z41:Binds K a.d_z41 ["self","whole"] []
 F_z30:Fun K "__init__" "Front.__init__" s_z30 a.f_z30 a.d_z30
 b_z30:Binds K a.d_z30 ["self","start"] []
 F_z4:Fun K "is_state" "Shelf.is_state" s_z4 a.f_z4 a.d_z4
 b_z4:Binds K a.d_z4 ["self","thing"] []
 F_z32:Fun K "__init__" "Shelf.__init__" s_z32 a.f_z32 a.d_z32
 b_z32:Binds K a.d_z32 ["self","things"] []
 F_z40:Fun K "__init__" "Both.__init__" s_z40 a.f_z40 a.d_z40
 b_z40:Binds K a.d_z40 ["self","start"] []
 F_z9:Fun K "is_state" "Line.is_state" s_z9 a.f_z9 a.d_z9
 b_z9:Binds K a.d_z9 ["self","thing"] []
 F_z61:Fun K "line_of" "line_of" s_z61 a.f_z61 a.d_z61
 b_z61:Binds K a.d_z61 ["start"] []
 m_z61:mg "line_of"=some (.ref a.f_z61)
 F_z42:Fun K "__init__" "Line.__init__" s_z42 a.f_z42 a.d_z42
 b_z42:Binds K a.d_z42 ["self","many"] []
 F_z35:Fun K "is_opening" "is_opening" s_z35 a.f_z35 a.d_z35
 b_z35:Binds K a.d_z35 ["word","start"] []
 m_z35:mg "is_opening"=some (.ref a.f_z35)
 F_z2:Fun K "rows_with_signs" "rows_with_signs" s_z2 a.f_z2 a.d_z2
 b_z2:Binds K a.d_z2 ["text"] []
 m_z2:mg "rows_with_signs"=some (.ref a.f_z2)
 F_z37:Fun K "_law_bad_of" "_law_bad_of" s_z37 a.f_z37 a.d_z37
 b_z37:Binds K a.d_z37 ["_law_word","_law_start_here","_law_number"] []
 m_z37:mg "_law_bad_of"=some (.ref a.f_z37)
 F_z22:Fun K "_law_stranger" "_law_stranger" s_z22 a.f_z22 a.d_z22
 b_z22:Binds K a.d_z22 ["_law_names_here"] []
 m_z22:mg "_law_stranger"=some (.ref a.f_z22)
 F_z13:Fun K "_law_bad_first" "_law_bad_first" s_z13 a.f_z13 a.d_z13
 b_z13:Binds K a.d_z13 ["_law_number"] []
 m_z13:mg "_law_bad_first"=some (.ref a.f_z13)
 F_z26:Fun K "_law_bad_ask" "_law_bad_ask" s_z26 a.f_z26 a.d_z26
 b_z26:Binds K a.d_z26 ["_law_number"] []
 m_z26:mg "_law_bad_ask"=some (.ref a.f_z26)
 F_z21:Fun K "_law_no_texts" "_law_no_texts" s_z21 a.f_z21 a.d_z21
 b_z21:Binds K a.d_z21 [] []
 m_z21:mg "_law_no_texts"=some (.ref a.f_z21)
 F_z53:Fun K "_law_words" "_law_words" s_z53 a.f_z53 a.d_z53
 b_z53:Binds K a.d_z53 ["_law_thing"] []
 m_z53:mg "_law_words"=some (.ref a.f_z53)
 F_z60:Fun K "_law_put" "_law_put" s_z60 a.f_z60 a.d_z60
 b_z60:Binds K a.d_z60 ["_law_lines_here","_law_at","_law_line"] []
 m_z60:mg "_law_put"=some (.ref a.f_z60)
 F_z38:Fun K "_law_spread" "_law_spread" s_z38 a.f_z38 a.d_z38
 b_z38:Binds K a.d_z38 ["_law_script","_law_lines_here"] []
 m_z38:mg "_law_spread"=some (.ref a.f_z38)
 F_z48:Fun K "_law_mixed" "_law_mixed" s_z48 a.f_z48 a.d_z48
 b_z48:Binds K a.d_z48 ["_law_cell_here","_law_k"] []
 m_z48:mg "_law_mixed"=some (.ref a.f_z48)
 F_z56:Fun K "_law_cell" "_law_cell" s_z56 a.f_z56 a.d_z56
 b_z56:Binds K a.d_z56 ["_law_script","_law_k"] []
 m_z56:mg "_law_cell"=some (.ref a.f_z56)
 F_z47:Fun K "_law_lines" "_law_lines" s_z47 a.f_z47 a.d_z47
 b_z47:Binds K a.d_z47 ["_law_word","_law_start_here","_law_wishes"] []
 m_z47:mg "_law_lines"=some (.ref a.f_z47)
 F_z58:Fun K "_law_wish" "_law_wish" s_z58 a.f_z58 a.d_z58
 b_z58:Binds K a.d_z58 ["_law_word","_law_start_here","_law_cell_here","_law_k"] []
 m_z58:mg "_law_wish"=some (.ref a.f_z58)
 F_z36:Fun K "_law_amount" "_law_amount" s_z36 a.f_z36 a.d_z36
 b_z36:Binds K a.d_z36 ["_law_cell_here","_law_k"] []
 m_z36:mg "_law_amount"=some (.ref a.f_z36)
 F_z49:Fun K "_law_names" "_law_names" s_z49 a.f_z49 a.d_z49
 b_z49:Binds K a.d_z49 ["_law_number","_law_many"] []
 m_z49:mg "_law_names"=some (.ref a.f_z49)
 F_z50:Fun K "_law_place" "_law_place" s_z50 a.f_z50 a.d_z50
 b_z50:Binds K a.d_z50 ["_law_cell_here","_law_k"] []
 m_z50:mg "_law_place"=some (.ref a.f_z50)
 F_z51:Fun K "_law_start" "_law_start" s_z51 a.f_z51 a.d_z51
 b_z51:Binds K a.d_z51 ["_law_script"] []
 m_z51:mg "_law_start"=some (.ref a.f_z51)
 ek_LateError:ErrK K a.c_LateError bmV a.f_z3
 m_LateError:mg "LateError"=some (.ref a.c_LateError)
 ek_NoState:ErrK K a.c_NoState (.ref a.c_LateError :: bmV) a.f_z3
 m_NoState:mg "NoState"=some (.ref a.c_NoState)
 m_NoWish:mg "NoWish"=some (.ref a.c_NoWish)
 ek_NoText:ErrK K a.c_NoText (.ref a.c_LateError :: bmV) a.f_z3
 ke_NoText_NoState:PySem.W.kitOne K (.ref a.c_NoText) (.ref a.c_NoState)=some false
 ke_NoText_NoWish:PySem.W.kitOne K (.ref a.c_NoText) (.ref a.c_NoWish)=some false
 ke_NoText_TooGreat:PySem.W.kitOne K (.ref a.c_NoText) (.ref a.c_TooGreat)=some false
 kt_NoText_ValueError:PySem.W.kitOne K (.ref a.c_NoText) (.type "ValueError")=some true
 m_NoText:mg "NoText"=some (.ref a.c_NoText)
 m_TooGreat:mg "TooGreat"=some (.ref a.c_TooGreat)
 m_Bound:mg "Bound"=some (.ref a.c_Bound)
 cm_Bound_init:CMeth K a.c_Bound "__init__" a.f_z43
 m_Bags:mg "Bags"=some (.ref a.c_Bags)
 cl_Bags:Cls K a.c_Bags
 mk_Bags:Mk K a.c_Bags a.f_z39
 na_Bags_room:NoAttr K a.c_Bags "room"
 me_Bags_is_state:Meth K a.c_Bags "is_state" a.f_z7
 me_Bags_is_wish:Meth K a.c_Bags "is_wish" a.f_z14
 m_Filler:mg "Filler"=some (.ref a.c_Filler)
 cl_Filler:Cls K a.c_Filler
 mk_Filler:Mk K a.c_Filler a.f_z23
 na_Filler_packed:NoAttr K a.c_Filler "packed"
 na_Filler_spent:NoAttr K a.c_Filler "spent"
 na_Filler_standing:NoAttr K a.c_Filler "standing"
 na_Filler_world:NoAttr K a.c_Filler "world"
 me_Filler_state:Meth K a.c_Filler "state" a.f_z31
 m_Hire:mg "Hire"=some (.ref a.c_Hire)
 cl_Hire:Cls K a.c_Hire
 mk_Hire:Mk K a.c_Hire a.f_z41
 na_Hire_whole:NoAttr K a.c_Hire "whole"
 me_Hire_is_state:Meth K a.c_Hire "is_state" a.f_z8
 me_Hire_is_wish:Meth K a.c_Hire "is_wish" a.f_z16
 m_Buyer:mg "Buyer"=some (.ref a.c_Buyer)
 cl_Buyer:Cls K a.c_Buyer
 mk_Buyer:Mk K a.c_Buyer a.f_z29
 na_Buyer_spent:NoAttr K a.c_Buyer "spent"
 na_Buyer_standing:NoAttr K a.c_Buyer "standing"
 na_Buyer_world:NoAttr K a.c_Buyer "world"
 me_Buyer_state:Meth K a.c_Buyer "state" a.f_z31
 m_Line:mg "Line"=some (.ref a.c_Line)
 cl_Line:Cls K a.c_Line
 mk_Line:Mk K a.c_Line a.f_z42
 na_Line_many:NoAttr K a.c_Line "many"
 me_Line_is_state:Meth K a.c_Line "is_state" a.f_z9
 me_Line_is_wish:Meth K a.c_Line "is_wish" a.f_z17
 m_Both:mg "Both"=some (.ref a.c_Both)
 cl_Both:Cls K a.c_Both
 mk_Both:Mk K a.c_Both a.f_z40
 na_Both_spent:NoAttr K a.c_Both "spent"
 na_Both_standing:NoAttr K a.c_Both "standing"
 na_Both_world:NoAttr K a.c_Both "world"
 me_Both_state:Meth K a.c_Both "state" a.f_z31
 m_Shelf:mg "Shelf"=some (.ref a.c_Shelf)
 cl_Shelf:Cls K a.c_Shelf
 mk_Shelf:Mk K a.c_Shelf a.f_z32
 na_Shelf_things:NoAttr K a.c_Shelf "things"
 me_Shelf_is_state:Meth K a.c_Shelf "is_state" a.f_z4
 me_Shelf_is_wish:Meth K a.c_Shelf "is_wish" a.f_z10
 m_Front:mg "Front"=some (.ref a.c_Front)
 cl_Front:Cls K a.c_Front
 mk_Front:Mk K a.c_Front a.f_z30
 na_Front_spent:NoAttr K a.c_Front "spent"
 na_Front_standing:NoAttr K a.c_Front "standing"
 na_Front_world:NoAttr K a.c_Front "world"
 me_Front_state:Meth K a.c_Front "state" a.f_z31
 m_Store:mg "Store"=some (.ref a.c_Store)
 cl_Store:Cls K a.c_Store
 mk_Store:Mk K a.c_Store a.f_z33
 na_Store_many:NoAttr K a.c_Store "many"
 me_Store_is_state:Meth K a.c_Store "is_state" a.f_z5
 me_Store_is_wish:Meth K a.c_Store "is_wish" a.f_z11
 m_Keeper:mg "Keeper"=some (.ref a.c_Keeper)
 cl_Keeper:Cls K a.c_Keeper
 mk_Keeper:Mk K a.c_Keeper a.f_z24
 na_Keeper_row:NoAttr K a.c_Keeper "row"
 na_Keeper_spent:NoAttr K a.c_Keeper "spent"
 na_Keeper_standing:NoAttr K a.c_Keeper "standing"
 na_Keeper_world:NoAttr K a.c_Keeper "world"
 me_Keeper_state:Meth K a.c_Keeper "state" a.f_z31
 m_Ways:mg "Ways"=some (.ref a.c_Ways)
 cl_Ways:Cls K a.c_Ways
 mk_Ways:Mk K a.c_Ways a.f_z44
 na_Ways_many:NoAttr K a.c_Ways "many"
 na_Ways_toll:NoAttr K a.c_Ways "toll"
 me_Ways_is_state:Meth K a.c_Ways "is_state" a.f_z12
 me_Ways_is_wish:Meth K a.c_Ways "is_wish" a.f_z18
 m_Changer:mg "Changer"=some (.ref a.c_Changer)
 cl_Changer:Cls K a.c_Changer
 mk_Changer:Mk K a.c_Changer a.f_z15
 na_Changer_reckoned:NoAttr K a.c_Changer "reckoned"
 na_Changer_spent:NoAttr K a.c_Changer "spent"
 na_Changer_standing:NoAttr K a.c_Changer "standing"
 na_Changer_world:NoAttr K a.c_Changer "world"
 me_Changer_state:Meth K a.c_Changer "state" a.f_z31
 n_ValueError:mg "ValueError"=none
 n_abs:mg "abs"=none
 n_all:mg "all"=none
 n_bool:mg "bool"=none
 n_enumerate:mg "enumerate"=none
 n_int:mg "int"=none
 n_isinstance:mg "isinstance"=none
 n_len:mg "len"=none
 n_list:mg "list"=none
 n_max:mg "max"=none
 n_range:mg "range"=none
 n_set:mg "set"=none
 n_sorted:mg "sorted"=none
 n_str:mg "str"=none
 n_tuple:mg "tuple"=none
 n_zip:mg "zip"=none
 m_MOST_BAGS:mg "MOST_BAGS"=some (.int 500 a.t_MOST_BAGS)
 m_MOST_ASKS:mg "MOST_ASKS"=some (.int 200 a.t_MOST_ASKS)
 m_MOST_FIGURES:mg "MOST_FIGURES"=some (.int 19 a.t_MOST_FIGURES)
 m_FIRST_WORDS:mg "FIRST_WORDS"=some (.ref a.v_FIRST_WORDS)
 q_FIRST_WORDS:∀ H,SqT K H a.v_FIRST_WORDS ((["line","shelf","hire","ways","store","bags"]:List Str).map V.str)
 m_LENGTHS:mg "LENGTHS"=some (.ref a.v_LENGTHS)
 g_LENGTHS:GD w K a.v_LENGTHS [("hire",1),("ways",3),("bags",1)]
theorem all_mk {l:PySem.W.OpenLaw}{w:World}{K:PySem.W.Frag}{h:Heap}{mg:Str→Option Value}{fa:Addr} (sp:PySem.W.Frag→Sp) (ok:∀ (a:Adr) (base:Heap),Txt w K mg a→FnOk l.prog w K mg base (CXU l.prog w) 15 a.f_z65 a.d_z65 ["_law_script"] (sp K)) (X:K.In h) (G:h.Ns mainGlobals mg) (hfa:mg "law"=some (.ref fa))
  {f_z65 f_z27 f_z57 f_z52 f_z20 f_z54 f_z19 f_z3 f_z34 f_z14 f_z6 f_z1 f_z11 f_z59 f_z18 f_z46 f_z16 f_z10 f_z17 f_z55 f_z64 f_z63 f_z25 f_z28 f_z31 f_z62 f_z23 f_z43 f_z7 f_z39 f_z24 f_z5 f_z45 f_z33 f_z0 f_z15 f_z12 f_z44 f_z29 f_z8 f_z41 f_z30 f_z4 f_z32 f_z40 f_z9 f_z61 f_z42 f_z35 f_z2 f_z37 f_z22 f_z13 f_z26 f_z21 f_z53 f_z60 f_z38 f_z48 f_z56 f_z47 f_z58 f_z36 f_z49 f_z50 f_z51 c_LateError c_NoState c_NoWish c_NoText c_TooGreat c_Rule c_Bound c_Bags c_Filler c_Hire c_Buyer c_Line c_Both c_Shelf c_Front c_Store c_Keeper c_Ways c_Changer v_FIRST_WORDS v_LENGTHS:Addr}
  {dk_Changer_init_0:Tok}
  {t_MOST_BAGS:Tok}
  {t_MOST_ASKS:Tok}
  {t_MOST_FIGURES:Tok}
  {vd_FIRST_WORDS:Option Addr}{vn_FIRST_WORDS:Nat}{vs_FIRST_WORDS:Array (Option Value)}{vt_FIRST_WORDS_0 vt_FIRST_WORDS_1 vt_FIRST_WORDS_2 vt_FIRST_WORDS_3 vt_FIRST_WORDS_4 vt_FIRST_WORDS_5:Tok}
  {vn_LENGTHS:Nat}{vk_LENGTHS_0 vu_LENGTHS_0 vk_LENGTHS_1 vu_LENGTHS_1 vk_LENGTHS_2 vu_LENGTHS_2:Tok}
  (aC_LateError:NsC K "LateError" c_LateError)
  (aC_NoState:NsC K "NoState" c_NoState)
  (aC_NoWish:NsC K "NoWish" c_NoWish)
  (aC_NoText:NsC K "NoText" c_NoText)
  (aC_TooGreat:NsC K "TooGreat" c_TooGreat)
  (aC_Rule:NsC K "Rule" c_Rule)
  (aC_Bound:NsC K "Bound" c_Bound)
  (aC_Bags:NsC K "Bags" c_Bags)
  (aC_Filler:NsC K "Filler" c_Filler)
  (aC_Hire:NsC K "Hire" c_Hire)
  (aC_Buyer:NsC K "Buyer" c_Buyer)
  (aC_Line:NsC K "Line" c_Line)
  (aC_Both:NsC K "Both" c_Both)
  (aC_Shelf:NsC K "Shelf" c_Shelf)
  (aC_Front:NsC K "Front" c_Front)
  (aC_Store:NsC K "Store" c_Store)
  (aC_Keeper:NsC K "Keeper" c_Keeper)
  (aC_Ways:NsC K "Ways" c_Ways)
  (aC_Changer:NsC K "Changer" c_Changer)
  (l_z65:FnN K "law" s_z65 f_z65)
  (l_z27:FnN K "_law_refused" s_z27 f_z27)
  (l_z57:FnN K "_law_same" s_z57 f_z57)
  (l_z52:FnN K "_law_whole" s_z52 f_z52)
  (l_z20:FnN K "_law_all_same" s_z20 f_z20)
  (l_z54:FnN K "read_game" s_z54 f_z54)
  (l_z19:FnN K "asked_wishes" s_z19 f_z19)
  (l_z3:PySem.W.findIn K (.ref c_LateError) "__init__"=some (some (.ref f_z3))∧∃ fd,FunD K "__init__" "LateError.__init__" s_z3 f_z3 fd [.none])
  (l_z34:FnN K "asked_wish" s_z34 f_z34)
  (l_z14:FnM K c_Bags "is_wish" "Bags.is_wish" s_z14 f_z14)
  (l_z6:FnN K "is_from_one_to" s_z6 f_z6)
  (l_z1:FnN K "is_whole_number" s_z1 f_z1)
  (l_z11:FnM K c_Store "is_wish" "Store.is_wish" s_z11 f_z11)
  (l_z59:FnN K "is_name" s_z59 f_z59)
  (l_z18:FnM K c_Ways "is_wish" "Ways.is_wish" s_z18 f_z18)
  (l_z46:FnN K "is_amount" s_z46 f_z46)
  (l_z16:FnM K c_Hire "is_wish" "Hire.is_wish" s_z16 f_z16)
  (l_z10:FnM K c_Shelf "is_wish" "Shelf.is_wish" s_z10 f_z10)
  (l_z17:FnM K c_Line "is_wish" "Line.is_wish" s_z17 f_z17)
  (l_z55:FnN K "is_place" s_z55 f_z55)
  (l_z64:FnN K "parted" s_z64 f_z64)
  (l_z63:FnN K "written" s_z63 f_z63)
  (l_z25:FnN K "are_figures" s_z25 f_z25)
  (l_z28:FnN K "world_start" s_z28 f_z28)
  (l_z31:FnM K c_Rule "state" "Rule.state" s_z31 f_z31)
  (l_z62:FnN K "rule_of" s_z62 f_z62)
  (l_z23:FnM K c_Filler "__init__" "Filler.__init__" s_z23 f_z23)
  (l_z43:FnM K c_Rule "__init__" "Rule.__init__" s_z43 f_z43)
  (l_z7:FnM K c_Bags "is_state" "Bags.is_state" s_z7 f_z7)
  (l_z39:FnM K c_Bags "__init__" "Bags.__init__" s_z39 f_z39)
  (l_z24:FnM K c_Keeper "__init__" "Keeper.__init__" s_z24 f_z24)
  (l_z5:FnM K c_Store "is_state" "Store.is_state" s_z5 f_z5)
  (l_z45:FnN K "are_names" s_z45 f_z45)
  (l_z33:FnM K c_Store "__init__" "Store.__init__" s_z33 f_z33)
  (l_z0:FnN K "is_row_of_names" s_z0 f_z0)
  (l_z15:PySem.W.findIn K (.ref c_Changer) "__init__"=some (some (.ref f_z15))∧∃ fd,FunD K "__init__" "Changer.__init__" s_z15 f_z15 fd [.int 0 dk_Changer_init_0])
  (l_z12:FnM K c_Ways "is_state" "Ways.is_state" s_z12 f_z12)
  (l_z44:FnM K c_Ways "__init__" "Ways.__init__" s_z44 f_z44)
  (l_z29:FnM K c_Buyer "__init__" "Buyer.__init__" s_z29 f_z29)
  (l_z8:FnM K c_Hire "is_state" "Hire.is_state" s_z8 f_z8)
  (l_z41:FnM K c_Hire "__init__" "Hire.__init__" s_z41 f_z41)
  (l_z30:FnM K c_Front "__init__" "Front.__init__" s_z30 f_z30)
  (l_z4:FnM K c_Shelf "is_state" "Shelf.is_state" s_z4 f_z4)
  (l_z32:FnM K c_Shelf "__init__" "Shelf.__init__" s_z32 f_z32)
  (l_z40:FnM K c_Both "__init__" "Both.__init__" s_z40 f_z40)
  (l_z9:FnM K c_Line "is_state" "Line.is_state" s_z9 f_z9)
  (l_z61:FnN K "line_of" s_z61 f_z61)
  (l_z42:FnM K c_Line "__init__" "Line.__init__" s_z42 f_z42)
  (l_z35:FnN K "is_opening" s_z35 f_z35)
  (l_z2:FnN K "rows_with_signs" s_z2 f_z2)
  (l_z37:FnN K "_law_bad_of" s_z37 f_z37)
  (l_z22:FnN K "_law_stranger" s_z22 f_z22)
  (l_z13:FnN K "_law_bad_first" s_z13 f_z13)
  (l_z26:FnN K "_law_bad_ask" s_z26 f_z26)
  (l_z21:FnN K "_law_no_texts" s_z21 f_z21)
  (l_z53:FnN K "_law_words" s_z53 f_z53)
  (l_z60:FnN K "_law_put" s_z60 f_z60)
  (l_z38:FnN K "_law_spread" s_z38 f_z38)
  (l_z48:FnN K "_law_mixed" s_z48 f_z48)
  (l_z56:FnN K "_law_cell" s_z56 f_z56)
  (l_z47:FnN K "_law_lines" s_z47 f_z47)
  (l_z58:FnN K "_law_wish" s_z58 f_z58)
  (l_z36:FnN K "_law_amount" s_z36 f_z36)
  (l_z49:FnN K "_law_names" s_z49 f_z49)
  (l_z50:FnN K "_law_place" s_z50 f_z50)
  (l_z51:FnN K "_law_start" s_z51 f_z51)
  (ek_LateError:ErrK K c_LateError bmV f_z3)
  (ek_NoState:ErrK K c_NoState (.ref c_LateError :: bmV) f_z3)
  (ek_NoText:ErrK K c_NoText (.ref c_LateError :: bmV) f_z3)
  (ke_NoText_NoState:PySem.W.kitOne K (.ref c_NoText) (.ref c_NoState)=some false)
  (ke_NoText_NoWish:PySem.W.kitOne K (.ref c_NoText) (.ref c_NoWish)=some false)
  (ke_NoText_TooGreat:PySem.W.kitOne K (.ref c_NoText) (.ref c_TooGreat)=some false)
  (kt_NoText:PySem.W.kitOne K (.ref c_NoText) (.type "ValueError")=some true)
  (cm_Bound_init:CMeth K c_Bound "__init__" f_z43)
  (cl_Bags:Cls K c_Bags)
  (mk_Bags:Mk K c_Bags f_z39)
  (na_Bags_room:NoAttr K c_Bags "room")
  (me_Bags_is_state:Meth K c_Bags "is_state" f_z7)
  (me_Bags_is_wish:Meth K c_Bags "is_wish" f_z14)
  (cl_Filler:Cls K c_Filler)
  (mk_Filler:Mk K c_Filler f_z23)
  (na_Filler_packed:NoAttr K c_Filler "packed")
  (na_Filler_spent:NoAttr K c_Filler "spent")
  (na_Filler_standing:NoAttr K c_Filler "standing")
  (na_Filler_world:NoAttr K c_Filler "world")
  (me_Filler_state:Meth K c_Filler "state" f_z31)
  (cl_Hire:Cls K c_Hire)
  (mk_Hire:Mk K c_Hire f_z41)
  (na_Hire_whole:NoAttr K c_Hire "whole")
  (me_Hire_is_state:Meth K c_Hire "is_state" f_z8)
  (me_Hire_is_wish:Meth K c_Hire "is_wish" f_z16)
  (cl_Buyer:Cls K c_Buyer)
  (mk_Buyer:Mk K c_Buyer f_z29)
  (na_Buyer_spent:NoAttr K c_Buyer "spent")
  (na_Buyer_standing:NoAttr K c_Buyer "standing")
  (na_Buyer_world:NoAttr K c_Buyer "world")
  (me_Buyer_state:Meth K c_Buyer "state" f_z31)
  (cl_Line:Cls K c_Line)
  (mk_Line:Mk K c_Line f_z42)
  (na_Line_many:NoAttr K c_Line "many")
  (me_Line_is_state:Meth K c_Line "is_state" f_z9)
  (me_Line_is_wish:Meth K c_Line "is_wish" f_z17)
  (cl_Both:Cls K c_Both)
  (mk_Both:Mk K c_Both f_z40)
  (na_Both_spent:NoAttr K c_Both "spent")
  (na_Both_standing:NoAttr K c_Both "standing")
  (na_Both_world:NoAttr K c_Both "world")
  (me_Both_state:Meth K c_Both "state" f_z31)
  (cl_Shelf:Cls K c_Shelf)
  (mk_Shelf:Mk K c_Shelf f_z32)
  (na_Shelf_things:NoAttr K c_Shelf "things")
  (me_Shelf_is_state:Meth K c_Shelf "is_state" f_z4)
  (me_Shelf_is_wish:Meth K c_Shelf "is_wish" f_z10)
  (cl_Front:Cls K c_Front)
  (mk_Front:Mk K c_Front f_z30)
  (na_Front_spent:NoAttr K c_Front "spent")
  (na_Front_standing:NoAttr K c_Front "standing")
  (na_Front_world:NoAttr K c_Front "world")
  (me_Front_state:Meth K c_Front "state" f_z31)
  (cl_Store:Cls K c_Store)
  (mk_Store:Mk K c_Store f_z33)
  (na_Store_many:NoAttr K c_Store "many")
  (me_Store_is_state:Meth K c_Store "is_state" f_z5)
  (me_Store_is_wish:Meth K c_Store "is_wish" f_z11)
  (cl_Keeper:Cls K c_Keeper)
  (mk_Keeper:Mk K c_Keeper f_z24)
  (na_Keeper_row:NoAttr K c_Keeper "row")
  (na_Keeper_spent:NoAttr K c_Keeper "spent")
  (na_Keeper_standing:NoAttr K c_Keeper "standing")
  (na_Keeper_world:NoAttr K c_Keeper "world")
  (me_Keeper_state:Meth K c_Keeper "state" f_z31)
  (cl_Ways:Cls K c_Ways)
  (mk_Ways:Mk K c_Ways f_z44)
  (na_Ways_many:NoAttr K c_Ways "many")
  (na_Ways_toll:NoAttr K c_Ways "toll")
  (me_Ways_is_state:Meth K c_Ways "is_state" f_z12)
  (me_Ways_is_wish:Meth K c_Ways "is_wish" f_z18)
  (cl_Changer:Cls K c_Changer)
  (mk_Changer:Mk K c_Changer f_z15)
  (na_Changer_reckoned:NoAttr K c_Changer "reckoned")
  (na_Changer_spent:NoAttr K c_Changer "spent")
  (na_Changer_standing:NoAttr K c_Changer "standing")
  (na_Changer_world:NoAttr K c_Changer "world")
  (me_Changer_state:Meth K c_Changer "state" f_z31)
  (z_ValueError:NsB K "ValueError")
  (z_abs:NsB K "abs")
  (z_all:NsB K "all")
  (z_bool:NsB K "bool")
  (z_enumerate:NsB K "enumerate")
  (z_int:NsB K "int")
  (z_isinstance:NsB K "isinstance")
  (z_len:NsB K "len")
  (z_list:NsB K "list")
  (z_max:NsB K "max")
  (z_range:NsB K "range")
  (z_set:NsB K "set")
  (z_sorted:NsB K "sorted")
  (z_str:NsB K "str")
  (z_tuple:NsB K "tuple")
  (z_zip:NsB K "zip")
  (zk_MOST_BAGS:PySem.W.nsIn K mainGlobals "MOST_BAGS"=some (some (.int 500 t_MOST_BAGS)))
  (zk_MOST_ASKS:PySem.W.nsIn K mainGlobals "MOST_ASKS"=some (some (.int 200 t_MOST_ASKS)))
  (zk_MOST_FIGURES:PySem.W.nsIn K mainGlobals "MOST_FIGURES"=some (some (.int 19 t_MOST_FIGURES)))
  (va_FIRST_WORDS:NsC K "FIRST_WORDS" v_FIRST_WORDS)
  (vl_FIRST_WORDS:K.lookup v_FIRST_WORDS=some ⟨.type "tuple",vd_FIRST_WORDS,.seq ([.str "line" vt_FIRST_WORDS_0,.str "shelf" vt_FIRST_WORDS_1,.str "hire" vt_FIRST_WORDS_2,.str "ways" vt_FIRST_WORDS_3,.str "store" vt_FIRST_WORDS_4,.str "bags" vt_FIRST_WORDS_5]:List Value).toArray vn_FIRST_WORDS,vs_FIRST_WORDS⟩)
  (va_LENGTHS:NsC K "LENGTHS" v_LENGTHS)
  (vl_LENGTHS:K.lookup v_LENGTHS=some { cls:=.type "dict",dict:=none,data:=.dict #[⟨PyData.keyHash w.params "hire",.str "hire" vk_LENGTHS_0,.int 1 vu_LENGTHS_0⟩,⟨PyData.keyHash w.params "ways",.str "ways" vk_LENGTHS_1,.int 3 vu_LENGTHS_1⟩,⟨PyData.keyHash w.params "bags",.str "bags" vk_LENGTHS_2,.int 1 vu_LENGTHS_2⟩] vn_LENGTHS,slots:=#[] })
  (vs_LENGTHS:(v_LENGTHS == sysModules)=false) :
  ∃ fd:FuncData,(∀ (s:Shared) (v:Value),BindsTo s fd ⟨[v],[]⟩ [("_law_script",v)])∧∀ base:Heap,K.In base→base.Ns mainGlobals mg→FnOk l.prog w K mg base (CXU l.prog w) 15 fa fd ["_law_script"] (sp K):=by
 obtain⟨a_z65,d_z65,F_z65⟩:=l_z65
 have b_z65:=F_z65.binds (ps:=["_law_script"]) fun _ _ _ _ _ _ us hl=>match us,hl with | [_],_=>rfl
 obtain⟨a_z27,d_z27,F_z27⟩:=l_z27
 have b_z27:=F_z27.binds (ps:=["_law_thing","_law_row"]) fun _ _ _ _ _ _ us hl=>match us,hl with | [_,_],_=>rfl
 obtain⟨a_z57,d_z57,F_z57⟩:=l_z57
 have b_z57:=F_z57.binds (ps:=["_law_found","_law_due"]) fun _ _ _ _ _ _ us hl=>match us,hl with | [_,_],_=>rfl
 obtain⟨a_z52,d_z52,F_z52⟩:=l_z52
 have b_z52:=F_z52.binds (ps:=["_law_found"]) fun _ _ _ _ _ _ us hl=>match us,hl with | [_],_=>rfl
 obtain⟨a_z20,d_z20,F_z20⟩:=l_z20
 have b_z20:=F_z20.binds (ps:=["_law_found","_law_due"]) fun _ _ _ _ _ _ us hl=>match us,hl with | [_,_],_=>rfl
 obtain⟨a_z54,d_z54,F_z54⟩:=l_z54
 have b_z54:=F_z54.binds (ps:=["text"]) fun _ _ _ _ _ _ us hl=>match us,hl with | [_],_=>rfl
 obtain⟨a_z19,d_z19,F_z19⟩:=l_z19
 have b_z19:=F_z19.binds (ps:=["word","world","rows"]) fun _ _ _ _ _ _ us hl=>match us,hl with | [_,_,_],_=>rfl
 obtain⟨a_z3,d_z3,F_z3⟩:=l_z3
 have b1_LateError_init:=F_z3.binds (ps:=["self","row"]) (es:=[.none]) fun _ _ _ _ _ _ _ us hl=>match us,Nat.add_right_cancel (m:=1) (k:=1) (List.length_append.symm.trans hl) with | [_],_=>⟨_,rfl,rfl⟩
 have b_z3:=F_z3.binds (ps:=["self","row"]) (es:=[]) fun _ _ _ _ _ _ _ us hl=>match us,hl with | [_,_],_=>⟨_,rfl,rfl⟩
 obtain⟨a_z34,d_z34,F_z34⟩:=l_z34
 have b_z34:=F_z34.binds (ps:=["word","world","line"]) fun _ _ _ _ _ _ us hl=>match us,hl with | [_,_,_],_=>rfl
 obtain⟨a_z14,d_z14,F_z14⟩:=l_z14
 have b_z14:=F_z14.binds (ps:=["self","thing"]) fun _ _ _ _ _ _ us hl=>match us,hl with | [_,_],_=>rfl
 obtain⟨a_z6,d_z6,F_z6⟩:=l_z6
 have b_z6:=F_z6.binds (ps:=["thing","most"]) fun _ _ _ _ _ _ us hl=>match us,hl with | [_,_],_=>rfl
 obtain⟨a_z1,d_z1,F_z1⟩:=l_z1
 have b_z1:=F_z1.binds (ps:=["thing"]) fun _ _ _ _ _ _ us hl=>match us,hl with | [_],_=>rfl
 obtain⟨a_z11,d_z11,F_z11⟩:=l_z11
 have b_z11:=F_z11.binds (ps:=["self","thing"]) fun _ _ _ _ _ _ us hl=>match us,hl with | [_,_],_=>rfl
 obtain⟨a_z59,d_z59,F_z59⟩:=l_z59
 have b_z59:=F_z59.binds (ps:=["thing"]) fun _ _ _ _ _ _ us hl=>match us,hl with | [_],_=>rfl
 obtain⟨a_z18,d_z18,F_z18⟩:=l_z18
 have b_z18:=F_z18.binds (ps:=["self","thing"]) fun _ _ _ _ _ _ us hl=>match us,hl with | [_,_],_=>rfl
 obtain⟨a_z46,d_z46,F_z46⟩:=l_z46
 have b_z46:=F_z46.binds (ps:=["thing"]) fun _ _ _ _ _ _ us hl=>match us,hl with | [_],_=>rfl
 obtain⟨a_z16,d_z16,F_z16⟩:=l_z16
 have b_z16:=F_z16.binds (ps:=["self","thing"]) fun _ _ _ _ _ _ us hl=>match us,hl with | [_,_],_=>rfl
 obtain⟨a_z10,d_z10,F_z10⟩:=l_z10
 have b_z10:=F_z10.binds (ps:=["self","thing"]) fun _ _ _ _ _ _ us hl=>match us,hl with | [_,_],_=>rfl
 obtain⟨a_z17,d_z17,F_z17⟩:=l_z17
 have b_z17:=F_z17.binds (ps:=["self","thing"]) fun _ _ _ _ _ _ us hl=>match us,hl with | [_,_],_=>rfl
 obtain⟨a_z55,d_z55,F_z55⟩:=l_z55
 have b_z55:=F_z55.binds (ps:=["thing"]) fun _ _ _ _ _ _ us hl=>match us,hl with | [_],_=>rfl
 obtain⟨a_z64,d_z64,F_z64⟩:=l_z64
 have b_z64:=F_z64.binds (ps:=["line"]) fun _ _ _ _ _ _ us hl=>match us,hl with | [_],_=>rfl
 obtain⟨a_z63,d_z63,F_z63⟩:=l_z63
 have b_z63:=F_z63.binds (ps:=["word"]) fun _ _ _ _ _ _ us hl=>match us,hl with | [_],_=>rfl
 obtain⟨a_z25,d_z25,F_z25⟩:=l_z25
 have b_z25:=F_z25.binds (ps:=["text"]) fun _ _ _ _ _ _ us hl=>match us,hl with | [_],_=>rfl
 obtain⟨a_z28,d_z28,F_z28⟩:=l_z28
 have b_z28:=F_z28.binds (ps:=["word","start"]) fun _ _ _ _ _ _ us hl=>match us,hl with | [_,_],_=>rfl
 obtain⟨a_z31,d_z31,F_z31⟩:=l_z31
 have b_z31:=F_z31.binds (ps:=["self"]) fun _ _ _ _ _ _ us hl=>match us,hl with | [_],_=>rfl
 obtain⟨a_z62,d_z62,F_z62⟩:=l_z62
 have b_z62:=F_z62.binds (ps:=["word","start"]) fun _ _ _ _ _ _ us hl=>match us,hl with | [_,_],_=>rfl
 obtain⟨a_z23,d_z23,F_z23⟩:=l_z23
 have b_z23:=F_z23.binds (ps:=["self","room"]) fun _ _ _ _ _ _ us hl=>match us,hl with | [_,_],_=>rfl
 obtain⟨a_z43,d_z43,F_z43⟩:=l_z43
 have b_z43:=F_z43.binds (ps:=["self","world","start"]) fun _ _ _ _ _ _ us hl=>match us,hl with | [_,_,_],_=>rfl
 obtain⟨a_z7,d_z7,F_z7⟩:=l_z7
 have b_z7:=F_z7.binds (ps:=["self","thing"]) fun _ _ _ _ _ _ us hl=>match us,hl with | [_,_],_=>rfl
 obtain⟨a_z39,d_z39,F_z39⟩:=l_z39
 have b_z39:=F_z39.binds (ps:=["self","room"]) fun _ _ _ _ _ _ us hl=>match us,hl with | [_,_],_=>rfl
 obtain⟨a_z24,d_z24,F_z24⟩:=l_z24
 have b_z24:=F_z24.binds (ps:=["self","pages"]) fun _ _ _ _ _ _ us hl=>match us,hl with | [_,_],_=>rfl
 obtain⟨a_z5,d_z5,F_z5⟩:=l_z5
 have b_z5:=F_z5.binds (ps:=["self","thing"]) fun _ _ _ _ _ _ us hl=>match us,hl with | [_,_],_=>rfl
 obtain⟨a_z45,d_z45,F_z45⟩:=l_z45
 have b_z45:=F_z45.binds (ps:=["thing"]) fun _ _ _ _ _ _ us hl=>match us,hl with | [_],_=>rfl
 obtain⟨a_z33,d_z33,F_z33⟩:=l_z33
 have b_z33:=F_z33.binds (ps:=["self","many"]) fun _ _ _ _ _ _ us hl=>match us,hl with | [_,_],_=>rfl
 obtain⟨a_z0,d_z0,F_z0⟩:=l_z0
 have b_z0:=F_z0.binds (ps:=["thing"]) fun _ _ _ _ _ _ us hl=>match us,hl with | [_],_=>rfl
 obtain⟨a_z15,d_z15,F_z15⟩:=l_z15
 have b_z15:=F_z15.binds (ps:=["self","many","toll","start"]) (es:=[]) fun _ _ _ _ _ _ _ us hl=>match us,hl with | [_,_,_,_],_=>⟨_,rfl,rfl⟩
 obtain⟨a_z12,d_z12,F_z12⟩:=l_z12
 have b_z12:=F_z12.binds (ps:=["self","thing"]) fun _ _ _ _ _ _ us hl=>match us,hl with | [_,_],_=>rfl
 obtain⟨a_z44,d_z44,F_z44⟩:=l_z44
 have b_z44:=F_z44.binds (ps:=["self","many","toll"]) fun _ _ _ _ _ _ us hl=>match us,hl with | [_,_,_],_=>rfl
 obtain⟨a_z29,d_z29,F_z29⟩:=l_z29
 have b_z29:=F_z29.binds (ps:=["self","whole"]) fun _ _ _ _ _ _ us hl=>match us,hl with | [_,_],_=>rfl
 obtain⟨a_z8,d_z8,F_z8⟩:=l_z8
 have b_z8:=F_z8.binds (ps:=["self","thing"]) fun _ _ _ _ _ _ us hl=>match us,hl with | [_,_],_=>rfl
 obtain⟨a_z41,d_z41,F_z41⟩:=l_z41
 have b_z41:=F_z41.binds (ps:=["self","whole"]) fun _ _ _ _ _ _ us hl=>match us,hl with | [_,_],_=>rfl
 obtain⟨a_z30,d_z30,F_z30⟩:=l_z30
 have b_z30:=F_z30.binds (ps:=["self","start"]) fun _ _ _ _ _ _ us hl=>match us,hl with | [_,_],_=>rfl
 obtain⟨a_z4,d_z4,F_z4⟩:=l_z4
 have b_z4:=F_z4.binds (ps:=["self","thing"]) fun _ _ _ _ _ _ us hl=>match us,hl with | [_,_],_=>rfl
 obtain⟨a_z32,d_z32,F_z32⟩:=l_z32
 have b_z32:=F_z32.binds (ps:=["self","things"]) fun _ _ _ _ _ _ us hl=>match us,hl with | [_,_],_=>rfl
 obtain⟨a_z40,d_z40,F_z40⟩:=l_z40
 have b_z40:=F_z40.binds (ps:=["self","start"]) fun _ _ _ _ _ _ us hl=>match us,hl with | [_,_],_=>rfl
 obtain⟨a_z9,d_z9,F_z9⟩:=l_z9
 have b_z9:=F_z9.binds (ps:=["self","thing"]) fun _ _ _ _ _ _ us hl=>match us,hl with | [_,_],_=>rfl
 obtain⟨a_z61,d_z61,F_z61⟩:=l_z61
 have b_z61:=F_z61.binds (ps:=["start"]) fun _ _ _ _ _ _ us hl=>match us,hl with | [_],_=>rfl
 obtain⟨a_z42,d_z42,F_z42⟩:=l_z42
 have b_z42:=F_z42.binds (ps:=["self","many"]) fun _ _ _ _ _ _ us hl=>match us,hl with | [_,_],_=>rfl
 obtain⟨a_z35,d_z35,F_z35⟩:=l_z35
 have b_z35:=F_z35.binds (ps:=["word","start"]) fun _ _ _ _ _ _ us hl=>match us,hl with | [_,_],_=>rfl
 obtain⟨a_z2,d_z2,F_z2⟩:=l_z2
 have b_z2:=F_z2.binds (ps:=["text"]) fun _ _ _ _ _ _ us hl=>match us,hl with | [_],_=>rfl
 obtain⟨a_z37,d_z37,F_z37⟩:=l_z37
 have b_z37:=F_z37.binds (ps:=["_law_word","_law_start_here","_law_number"]) fun _ _ _ _ _ _ us hl=>match us,hl with | [_,_,_],_=>rfl
 obtain⟨a_z22,d_z22,F_z22⟩:=l_z22
 have b_z22:=F_z22.binds (ps:=["_law_names_here"]) fun _ _ _ _ _ _ us hl=>match us,hl with | [_],_=>rfl
 obtain⟨a_z13,d_z13,F_z13⟩:=l_z13
 have b_z13:=F_z13.binds (ps:=["_law_number"]) fun _ _ _ _ _ _ us hl=>match us,hl with | [_],_=>rfl
 obtain⟨a_z26,d_z26,F_z26⟩:=l_z26
 have b_z26:=F_z26.binds (ps:=["_law_number"]) fun _ _ _ _ _ _ us hl=>match us,hl with | [_],_=>rfl
 obtain⟨a_z21,d_z21,F_z21⟩:=l_z21
 have b_z21:=F_z21.binds (ps:=[]) fun _ _ _ _ _ _ us hl=>match us,hl with | [],_=>rfl
 obtain⟨a_z53,d_z53,F_z53⟩:=l_z53
 have b_z53:=F_z53.binds (ps:=["_law_thing"]) fun _ _ _ _ _ _ us hl=>match us,hl with | [_],_=>rfl
 obtain⟨a_z60,d_z60,F_z60⟩:=l_z60
 have b_z60:=F_z60.binds (ps:=["_law_lines_here","_law_at","_law_line"]) fun _ _ _ _ _ _ us hl=>match us,hl with | [_,_,_],_=>rfl
 obtain⟨a_z38,d_z38,F_z38⟩:=l_z38
 have b_z38:=F_z38.binds (ps:=["_law_script","_law_lines_here"]) fun _ _ _ _ _ _ us hl=>match us,hl with | [_,_],_=>rfl
 obtain⟨a_z48,d_z48,F_z48⟩:=l_z48
 have b_z48:=F_z48.binds (ps:=["_law_cell_here","_law_k"]) fun _ _ _ _ _ _ us hl=>match us,hl with | [_,_],_=>rfl
 obtain⟨a_z56,d_z56,F_z56⟩:=l_z56
 have b_z56:=F_z56.binds (ps:=["_law_script","_law_k"]) fun _ _ _ _ _ _ us hl=>match us,hl with | [_,_],_=>rfl
 obtain⟨a_z47,d_z47,F_z47⟩:=l_z47
 have b_z47:=F_z47.binds (ps:=["_law_word","_law_start_here","_law_wishes"]) fun _ _ _ _ _ _ us hl=>match us,hl with | [_,_,_],_=>rfl
 obtain⟨a_z58,d_z58,F_z58⟩:=l_z58
 have b_z58:=F_z58.binds (ps:=["_law_word","_law_start_here","_law_cell_here","_law_k"]) fun _ _ _ _ _ _ us hl=>match us,hl with | [_,_,_,_],_=>rfl
 obtain⟨a_z36,d_z36,F_z36⟩:=l_z36
 have b_z36:=F_z36.binds (ps:=["_law_cell_here","_law_k"]) fun _ _ _ _ _ _ us hl=>match us,hl with | [_,_],_=>rfl
 obtain⟨a_z49,d_z49,F_z49⟩:=l_z49
 have b_z49:=F_z49.binds (ps:=["_law_number","_law_many"]) fun _ _ _ _ _ _ us hl=>match us,hl with | [_,_],_=>rfl
 obtain⟨a_z50,d_z50,F_z50⟩:=l_z50
 have b_z50:=F_z50.binds (ps:=["_law_cell_here","_law_k"]) fun _ _ _ _ _ _ us hl=>match us,hl with | [_,_],_=>rfl
 obtain⟨a_z51,d_z51,F_z51⟩:=l_z51
 have b_z51:=F_z51.binds (ps:=["_law_script"]) fun _ _ _ _ _ _ us hl=>match us,hl with | [_],_=>rfl
 have e:=hfa.symm.trans (PySem.W.mg_of X G a_z65)
 cases e
 have T:Txt w K mg ⟨fa,d_z65,f_z27,d_z27,f_z57,d_z57,f_z52,d_z52,f_z20,d_z20,f_z54,d_z54,f_z19,d_z19,f_z3,d_z3,_,f_z34,d_z34,f_z14,d_z14,f_z6,d_z6,f_z1,d_z1,f_z11,d_z11,f_z59,d_z59,f_z18,d_z18,f_z46,d_z46,f_z16,d_z16,f_z10,d_z10,f_z17,d_z17,f_z55,d_z55,f_z64,d_z64,f_z63,d_z63,f_z25,d_z25,f_z28,d_z28,f_z31,d_z31,f_z62,d_z62,f_z23,d_z23,f_z43,d_z43,f_z7,d_z7,f_z39,d_z39,f_z24,d_z24,f_z5,d_z5,f_z45,d_z45,f_z33,d_z33,f_z0,d_z0,f_z15,d_z15,_,f_z12,d_z12,f_z44,d_z44,f_z29,d_z29,f_z8,d_z8,f_z41,d_z41,f_z30,d_z30,f_z4,d_z4,f_z32,d_z32,f_z40,d_z40,f_z9,d_z9,f_z61,d_z61,f_z42,d_z42,f_z35,d_z35,f_z2,d_z2,f_z37,d_z37,f_z22,d_z22,f_z13,d_z13,f_z26,d_z26,f_z21,d_z21,f_z53,d_z53,f_z60,d_z60,f_z38,d_z38,f_z48,d_z48,f_z56,d_z56,f_z47,d_z47,f_z58,d_z58,f_z36,d_z36,f_z49,d_z49,f_z50,d_z50,f_z51,d_z51,c_LateError,c_NoState,c_NoWish,c_NoText,c_TooGreat,c_Rule,c_Bound,c_Bags,c_Filler,c_Hire,c_Buyer,c_Line,c_Both,c_Shelf,c_Front,c_Store,c_Keeper,c_Ways,c_Changer,_,_,_,v_FIRST_WORDS,v_LENGTHS⟩:=⟨F_z65,b_z65,PySem.W.mg_of X G a_z65,F_z27,b_z27,PySem.W.mg_of X G a_z27,F_z57,b_z57,PySem.W.mg_of X G a_z57,F_z52,b_z52,PySem.W.mg_of X G a_z52,F_z20,b_z20,PySem.W.mg_of X G a_z20,F_z54,b_z54,PySem.W.mg_of X G a_z54,F_z19,b_z19,PySem.W.mg_of X G a_z19,F_z3,b_z3,b1_LateError_init,(.cons rfl .nil),F_z34,b_z34,PySem.W.mg_of X G a_z34,F_z14,b_z14,F_z6,b_z6,PySem.W.mg_of X G a_z6,F_z1,b_z1,PySem.W.mg_of X G a_z1,F_z11,b_z11,F_z59,b_z59,PySem.W.mg_of X G a_z59,F_z18,b_z18,F_z46,b_z46,PySem.W.mg_of X G a_z46,F_z16,b_z16,F_z10,b_z10,F_z17,b_z17,F_z55,b_z55,PySem.W.mg_of X G a_z55,F_z64,b_z64,PySem.W.mg_of X G a_z64,F_z63,b_z63,PySem.W.mg_of X G a_z63,F_z25,b_z25,PySem.W.mg_of X G a_z25,F_z28,b_z28,PySem.W.mg_of X G a_z28,F_z31,b_z31,F_z62,b_z62,PySem.W.mg_of X G a_z62,F_z23,b_z23,F_z43,b_z43,F_z7,b_z7,F_z39,b_z39,F_z24,b_z24,F_z5,b_z5,F_z45,b_z45,PySem.W.mg_of X G a_z45,F_z33,b_z33,F_z0,b_z0,PySem.W.mg_of X G a_z0,F_z15,b_z15,F_z12,b_z12,F_z44,b_z44,F_z29,b_z29,F_z8,b_z8,F_z41,b_z41,F_z30,b_z30,F_z4,b_z4,F_z32,b_z32,F_z40,b_z40,F_z9,b_z9,F_z61,b_z61,PySem.W.mg_of X G a_z61,F_z42,b_z42,F_z35,b_z35,PySem.W.mg_of X G a_z35,F_z2,b_z2,PySem.W.mg_of X G a_z2,F_z37,b_z37,PySem.W.mg_of X G a_z37,F_z22,b_z22,PySem.W.mg_of X G a_z22,F_z13,b_z13,PySem.W.mg_of X G a_z13,F_z26,b_z26,PySem.W.mg_of X G a_z26,F_z21,b_z21,PySem.W.mg_of X G a_z21,F_z53,b_z53,PySem.W.mg_of X G a_z53,F_z60,b_z60,PySem.W.mg_of X G a_z60,F_z38,b_z38,PySem.W.mg_of X G a_z38,F_z48,b_z48,PySem.W.mg_of X G a_z48,F_z56,b_z56,PySem.W.mg_of X G a_z56,F_z47,b_z47,PySem.W.mg_of X G a_z47,F_z58,b_z58,PySem.W.mg_of X G a_z58,F_z36,b_z36,PySem.W.mg_of X G a_z36,F_z49,b_z49,PySem.W.mg_of X G a_z49,F_z50,b_z50,PySem.W.mg_of X G a_z50,F_z51,b_z51,PySem.W.mg_of X G a_z51,ek_LateError,PySem.W.mg_of X G aC_LateError,ek_NoState,PySem.W.mg_of X G aC_NoState,PySem.W.mg_of X G aC_NoWish,ek_NoText,ke_NoText_NoState,ke_NoText_NoWish,ke_NoText_TooGreat,kt_NoText,PySem.W.mg_of X G aC_NoText,PySem.W.mg_of X G aC_TooGreat,PySem.W.mg_of X G aC_Bound,cm_Bound_init,PySem.W.mg_of X G aC_Bags,cl_Bags,mk_Bags,na_Bags_room,me_Bags_is_state,me_Bags_is_wish,PySem.W.mg_of X G aC_Filler,cl_Filler,mk_Filler,na_Filler_packed,na_Filler_spent,na_Filler_standing,na_Filler_world,me_Filler_state,PySem.W.mg_of X G aC_Hire,cl_Hire,mk_Hire,na_Hire_whole,me_Hire_is_state,me_Hire_is_wish,PySem.W.mg_of X G aC_Buyer,cl_Buyer,mk_Buyer,na_Buyer_spent,na_Buyer_standing,na_Buyer_world,me_Buyer_state,PySem.W.mg_of X G aC_Line,cl_Line,mk_Line,na_Line_many,me_Line_is_state,me_Line_is_wish,PySem.W.mg_of X G aC_Both,cl_Both,mk_Both,na_Both_spent,na_Both_standing,na_Both_world,me_Both_state,PySem.W.mg_of X G aC_Shelf,cl_Shelf,mk_Shelf,na_Shelf_things,me_Shelf_is_state,me_Shelf_is_wish,PySem.W.mg_of X G aC_Front,cl_Front,mk_Front,na_Front_spent,na_Front_standing,na_Front_world,me_Front_state,PySem.W.mg_of X G aC_Store,cl_Store,mk_Store,na_Store_many,me_Store_is_state,me_Store_is_wish,PySem.W.mg_of X G aC_Keeper,cl_Keeper,mk_Keeper,na_Keeper_row,na_Keeper_spent,na_Keeper_standing,na_Keeper_world,me_Keeper_state,PySem.W.mg_of X G aC_Ways,cl_Ways,mk_Ways,na_Ways_many,na_Ways_toll,me_Ways_is_state,me_Ways_is_wish,PySem.W.mg_of X G aC_Changer,cl_Changer,mk_Changer,na_Changer_reckoned,na_Changer_spent,na_Changer_standing,na_Changer_world,me_Changer_state,PySem.W.mg_none_of X G z_ValueError,PySem.W.mg_none_of X G z_abs,PySem.W.mg_none_of X G z_all,PySem.W.mg_none_of X G z_bool,PySem.W.mg_none_of X G z_enumerate,PySem.W.mg_none_of X G z_int,PySem.W.mg_none_of X G z_isinstance,PySem.W.mg_none_of X G z_len,PySem.W.mg_none_of X G z_list,PySem.W.mg_none_of X G z_max,PySem.W.mg_none_of X G z_range,PySem.W.mg_none_of X G z_set,PySem.W.mg_none_of X G z_sorted,PySem.W.mg_none_of X G z_str,PySem.W.mg_none_of X G z_tuple,PySem.W.mg_none_of X G z_zip,PySem.W.mg_of X G zk_MOST_BAGS,PySem.W.mg_of X G zk_MOST_ASKS,PySem.W.mg_of X G zk_MOST_FIGURES,PySem.W.mg_of X G va_FIRST_WORDS,(fun H=>.inr ⟨_,_,_,vl_FIRST_WORDS,rfl,rfl,(by show 6≤sizeLine;decide),.cons ⟨_,rfl⟩ (.cons ⟨_,rfl⟩ (.cons ⟨_,rfl⟩ (.cons ⟨_,rfl⟩ (.cons ⟨_,rfl⟩ (.cons ⟨_,rfl⟩ (.nil))))))⟩),PySem.W.mg_of X G va_LENGTHS,⟨vs_LENGTHS,_,_,vl_LENGTHS,.cons ⟨rfl,⟨_,rfl⟩,_,rfl⟩ (.cons ⟨rfl,⟨_,rfl⟩,_,rfl⟩ (.cons ⟨rfl,⟨_,rfl⟩,_,rfl⟩ (.nil)))⟩⟩
 exact⟨_,F_z65.one fun _ _ _ _ _ _ _ _=>rfl,fun base _ _=>ok _ base T⟩
theorem walk {l:PySem.W.OpenLaw}{q:Program}{loose:List Str}{XP:(Str→Option Value)→Heap→Prop}{YP:World→Heap→Prop}{d:DefRec}{K:Params→PySem.W.Frag} (sp:PySem.W.Frag→Sp) (hsp:∀ (K:PySem.W.Frag) (H:Hp) (a:Addr) (ns:List Int),ns.length≤63→(∀ z∈ns,ib z≤1048576)→SqL K H a (ns.map V.int)→sp K [.ref a] H (fun v _=>v=.bl true) fun _ _ _=>False) (hn:l.most=some 63) (hdf:d.params.defaults=[])
  (hY:∀ (w:World) (h:Heap),YP w h→(K w.params).In h)
  (F:∀ (w:World) (mg:Str→Option Value) (fa:Addr) (h:Heap),(K w.params).In h→h.Ns mainGlobals mg→mg d.name=some (.ref fa) →
   ∃ fd:FuncData,(∀ (s:Shared) (u:Value),BindsTo s fd ⟨[u],[]⟩ [("_law_script",u)])∧∀ base:Heap,(K w.params).In base→base.Ns mainGlobals mg→FnOk l.prog w (K w.params) mg base (CXU l.prog w) 15 fa fd ["_law_script"] (sp (K w.params))) :
  PySem.W.WalkO q loose XP YP l.row.toRowW d [] (fun f vs=>PySem.call f vs) :=
 L2.walk_ofB (n:=63) (k:=15) (x:="_law_script") (CX:=fun w=>CXU l.prog w) (sp:=fun w=>sp (K w.params)) hn (by decide) hdf ⟨rfl,by decide,by decide,rfl⟩ hY F (fun _ _ a ns hl hb _ hS=>hsp _ _ a ns hl hb hS) noneU
end Q
section
namespace PySem.W.Fast
def tw6118039910098042986:Unit:=()
def tw4971001569235204270:Unit:=()
def tw3855940593310079646:Unit:=()
def tw3605415959737113226:Unit:=()
def tw174483699081084804:Unit:=()
def tw7559833245638420415:Unit:=()
def tw12370109315235676972:Unit:=()
def tw7592512404278887596:Unit:=()
def tw6731321588919349707:Unit:=()
def tw13113450656060013540:Unit:=()
def tw3869734119556037886:Unit:=()
def tw10600435024746681703:Unit:=()
def tw12567417420489402169:Unit:=()
def tw13094609574026796751:Unit:=()
def tw16173386554555005890:Unit:=()
def tw3383511939935461461:Unit:=()
def tw17441594990483587907:Unit:=()
def tw5177047711875601631:Unit:=()
def tw5769365531827519617:Unit:=()
def tw926125257604132616:Unit:=()
def tw9673580844914898981:Unit:=()
def tw4564837720792592469:Unit:=()
def tw15683673805443371888:Unit:=()
def tw13488195442149557884:Unit:=()
def tw18291956288629832948:Unit:=()
def tw13887804343903739151:Unit:=()
def tw2229212653530676389:Unit:=()
def tw2832196518145575540:Unit:=()
def tw6934574585269052930:Unit:=()
def tw9747679609386589106:Unit:=()
def tw13028881088937212893:Unit:=()
def tw2429105235623906892:Unit:=()
def tw7723616005633095558:Unit:=()
def tw13723057983293993386:Unit:=()
def tw10383467058967752283:Unit:=()
def tw12637207753535852496:Unit:=()
def tw4074962674581712255:Unit:=()
def tw7186425941322613796:Unit:=()
def tw9013962486768748495:Unit:=()
def tw14542446498084683384:Unit:=()
def tw9685481373572934960:Unit:=()
def tw12601718603362573717:Unit:=()
def tw6698519071778854895:Unit:=()
def tw5360280459610444125:Unit:=()
def tw11179179719351337697:Unit:=()
def tw4954858033137282169:Unit:=()
def tw11737458143672479910:Unit:=()
def tw8956917149768362518:Unit:=()
def tw722734996668532704:Unit:=()
def tw4973044970464757213:Unit:=()
def tw17397295363015713485:Unit:=()
def tw1518320645719569798:Unit:=()
def tw12028068612655914710:Unit:=()
def tw17092859157498627528:Unit:=()
def tw14508410979766432708:Unit:=()
def tw12203291297781837510:Unit:=()
def tw9158758998871785075:Unit:=()
def tw15089009386108581603:Unit:=()
def tw3879104519295866517:Unit:=()
def tw15118724237557835206:Unit:=()
def tw385071504004924665:Unit:=()
def tw12013898236489360252:Unit:=()
def tw3711122438748109949:Unit:=()
def tw16351182375577181991:Unit:=()
def tw11560171692899851181:Unit:=()
def tw16197549422817738802:Unit:=()
def tw6011958413999196971:Unit:=()
def tw13503394629756769232:Unit:=()
def tw2634931442520639782:Unit:=()
def tw5894371031048824441:Unit:=()
def tw9124096125396973477:Unit:=()
def tw9109858441933339641:Unit:=()
def tw17893101829562642817:Unit:=()
def tw9951767753949763594:Unit:=()
def tw16925409970634922482:Unit:=()
def tw7814869949782780463:Unit:=()
def tw2615708421244492978:Unit:=()
def tw3081574364576793901:Unit:=()
def tw7926873689728007244:Unit:=()
def tw14408155177798585215:Unit:=()
def tw5351268814589376327:Unit:=()
def tw15885221044646027947:Unit:=()
def tw8103011268374271109:Unit:=()
def tw12532271417945010917:Unit:=()
def tw8785029490799784850:Unit:=()
def tw16384640657917807147:Unit:=()
def tw7289903836300394492:Unit:=()
def tw15530408658213395672:Unit:=()
def tw3109948315332080709:Unit:=()
def tw5335446692150062837:Unit:=()
def tw10893541332828347545:Unit:=()
def tw7518303137857599380:Unit:=()
def tw17011329978815724129:Unit:=()
def tw7584081387020491001:Unit:=()
def tw13059021698382264312:Unit:=()
def tw15588057749518280666:Unit:=()
def tw4422072170514057762:Unit:=()
def tw697203051816370511:Unit:=()
def tw12475630883708895513:Unit:=()
def tw9814309874543839123:Unit:=()
def tw13491376873572283394:Unit:=()
def tw7496822933441619988:Unit:=()
def tw7769834356800823986:Unit:=()
def tw9432173141698652423:Unit:=()
def tw8141607012044528560:Unit:=()
def tw9990546433471925991:Unit:=()
def tw11546466788473465995:Unit:=()
def tw17677461081969498520:Unit:=()
def tw9192810538532105856:Unit:=()
def tw2924463852136147848:Unit:=()
def tw6108846824125423772:Unit:=()
def tw12767852961645905924:Unit:=()
def tw15138484096210709037:Unit:=()
def tw10974586975543449589:Unit:=()
def tw12329635244237849844:Unit:=()
def tw12483406002540500419:Unit:=()
def tw100419092778014026:Unit:=()
def tw14703026683804566639:Unit:=()
def tw46618001441928766:Unit:=()
def tw7316727703229284239:Unit:=()
def tw7865905703384784882:Unit:=()
def tw2186989855806247843:Unit:=()
def tw17877845611069062851:Unit:=()
def tw8079246273206969586:Unit:=()
def tw10996262981221947994:Unit:=()
def tw14576223712489489852:Unit:=()
def tw6120484270394797340:Unit:=()
def tw3477513576165163209:Unit:=()
def tw2097965185391165901:Unit:=()
def tw6267139926744654738:Unit:=()
def tw15695557052341250185:Unit:=()
def tw17330870854834380314:Unit:=()
def tw9066354064476441031:Unit:=()
def tw5152708615264367246:Unit:=()
def tw6448038780064583042:Unit:=()
def tw2699842335927682786:Unit:=()
def tw16517195635022095759:Unit:=()
def tw6920317817081436363:Unit:=()
def tw8666825642136833130:Unit:=()
def tw10791087091538485227:Unit:=()
def tw4872146883590080119:Unit:=()
def tw8162777046394041995:Unit:=()
def tw6073216356089409727:Unit:=()
def tw12473145148895449463:Unit:=()
def tw12936457465033733273:Unit:=()
def tw5878045922498829719:Unit:=()
def tw3973709832976522995:Unit:=()
def tw13077549494203202876:Unit:=()
def tw13784144277941335173:Unit:=()
def tw4921024238172227098:Unit:=()
def tw7814083255900009383:Unit:=()
def tw13203381097922770682:Unit:=()
def tw13052487032074272545:Unit:=()
def tw4628397930213384493:Unit:=()
def tw12231076631341784234:Unit:=()
def tw12467723845417490914:Unit:=()
def tw13242114279836347248:Unit:=()
def tw15813995464420287547:Unit:=()
def tw5595453888422383488:Unit:=()
def tw1743647396126350388:Unit:=()
def tw17487044760015614851:Unit:=()
def tw14424492171569588337:Unit:=()
def tw7907345600096861934:Unit:=()
def tw13368900658896280705:Unit:=()
def tw9821117048211605091:Unit:=()
def tw15498832178364947012:Unit:=()
def tw8364880671239996953:Unit:=()
def tw6935754225078304833:Unit:=()
def tw12617054320435276226:Unit:=()
def tw14390789317862338190:Unit:=()
def tw2169720158171546096:Unit:=()
def tw15314184657597399168:Unit:=()
def tw5739315121242099782:Unit:=()
def tw9108364061841278501:Unit:=()
def tw17035185783998013414:Unit:=()
def tw6810537765989228777:Unit:=()
def tw8665385677571877747:Unit:=()
def tw18406730823513864430:Unit:=()
def tw6097878801342258823:Unit:=()
def tw7468829115684145863:Unit:=()
def tw8722992983257595966:Unit:=()
def tw7339479317068522725:Unit:=()
def tw4427704315161264280:Unit:=()
def tw7551625123626495867:Unit:=()
def tw6452001095479261679:Unit:=()
def tw7600323663402280428:Unit:=()
def tw4083811701856945440:Unit:=()
def tw12775275108581343659:Unit:=()
def tw708924763514954488:Unit:=()
def tw8587705423217382402:Unit:=()
def tw3048403089637846794:Unit:=()
def tw13996521378903830047:Unit:=()
def tw9386684148265953636:Unit:=()
def tw6614156113629302684:Unit:=()
def tw11637250749394037871:Unit:=()
def tw15244379046455548419:Unit:=()
def tw18276116796750432592:Unit:=()
def tw16853320178951338474:Unit:=()
def tw4879291058874559610:Unit:=()
def tw9181196642429730269:Unit:=()
def tw3632854535388140656:Unit:=()
def tw16232824035850062220:Unit:=()
def tw2640884953293673477:Unit:=()
def tw16592476182138738841:Unit:=()
def tw11904021928068611048:Unit:=()
end PySem.W.Fast
open PySem PySem.W PyProof.Rows
set_option maxRecDepth 100000 in
set_option maxHeartbeats 0 in
open_top PySem.Challenge.cw_lateknow_k82_game_refused_hd for PySem.Challenge.rw_lateknow_k82_game_refused
local macro_rules | `(tactic| walk_at "k0")=>`(tactic| first | ((with_reducible show L2.NsC _ _ _);unfold L2.NsC;k_is) | (unfold L2.NsB;k_is))
local macro_rules | `(tactic| walk_at "kn")=>`(tactic| (unfold L2.NoAttr;k_is))
local macro_rules | `(tactic| walk_at "kf")=>`(tactic| (refine' ⟨?ka,_,L2.fun_mk ?kb ?kc ?kd⟩;(case ka=>k_is);(case kb=>k_is);(case kc=>k_is);(case kd=>k_is)))
local macro_rules | `(tactic| walk_at "kd")=>`(tactic| (refine' ⟨?ka,_,L2.funD_mk ?kb ?kc ?kd ?ke⟩;(case ka=>k_is);(case kb=>k_is);(case kc=>k_is);(case kd=>k_is);(case ke=>k_is)))
local macro_rules | `(tactic| walk_at "k3")=>`(tactic| (refine' ⟨?ka,?kb,?kc⟩;(case ka=>k_is);(case kb=>k_is);(case kc=>k_is)))
local macro_rules | `(tactic| walk_at "k4")=>`(tactic| (refine' ⟨?ka,?kb,?kc,?kd⟩;(case ka=>k_is);(case kb=>k_is);(case kc=>k_is);(case kd=>k_is)))
local macro_rules | `(tactic| walk_at "ke")=>`(tactic| (refine' L2.errK_mk ?ka ?kb ?kc ?kd ?ke ?kf ?kg ?kh ?ki ?kj ?kk ?kl;(case ka=>k_is);(case kb=>k_is);(case kc=>k_is);(case kd=>k_is);(case ke=>k_is);(case kf=>k_is);(case kg=>k_is);(case kh=>k_is);(case ki=>k_is);(case kj=>k_is);(case kk=>k_is);(case kl=>k_is)))
set_option maxRecDepth 100000 in
set_option maxHeartbeats 0 in
theorem PySem.Challenge.cw_lateknow_k82_game_refused_pre (sp : PySem.W.Frag → L2.Sp) (hsp : ∀ (K : PySem.W.Frag) (H : L2.Hp) (a : Addr) (ns : List Int), ns.length ≤ 63 → (∀ z ∈ ns, L2.ib z ≤ 1048576) → L2.SqL K H a (ns.map L2.V.int) → sp K [.ref a] H (fun v _ => v = .bl true) fun _ _ _ => False)
  (ok:∀ (w:World) (K:PySem.W.Frag) (mg:Str→Option Value) (a:Q.Adr) (base:Heap),Q.Txt w K mg a→L2.FnOk PySem.Challenge.rw_lateknow_k82_game_refused.prog w K mg base (L2.CXU PySem.Challenge.rw_lateknow_k82_game_refused.prog w) 15 a.f_z65 a.d_z65 ["_law_script"] (sp K)):PySem.Challenge.rw_lateknow_k82_game_refused.Holds:=by
 refine PySem.Challenge.cw_lateknow_k82_game_refused_hd ?_
 k_fill
 first | refine Q.walk (l:=PySem.Challenge.rw_lateknow_k82_game_refused) sp hsp rfl rfl (fun w h Y=>PySem.W.kIn_of Y) ?F | refine Q.walk (l:=PySem.Challenge.rw_lateknow_k82_game_refused) sp hsp rfl rfl (fun w h Y=>PySem.W.km_in_of Y) ?F
 case F =>
  intro w mg fa h KX G hmg
  refine' Q.all_mk sp (fun a base T=>ok w _ mg a base T) KX G hmg ?aC_LateError ?aC_NoState ?aC_NoWish ?aC_NoText ?aC_TooGreat ?aC_Rule ?aC_Bound ?aC_Bags ?aC_Filler ?aC_Hire ?aC_Buyer ?aC_Line ?aC_Both ?aC_Shelf ?aC_Front ?aC_Store ?aC_Keeper ?aC_Ways ?aC_Changer ?l_z65 ?l_z27 ?l_z57 ?l_z52 ?l_z20 ?l_z54 ?l_z19 ?l_z3 ?l_z34 ?l_z14 ?l_z6 ?l_z1 ?l_z11 ?l_z59 ?l_z18 ?l_z46 ?l_z16 ?l_z10 ?l_z17 ?l_z55 ?l_z64 ?l_z63 ?l_z25 ?l_z28 ?l_z31 ?l_z62 ?l_z23 ?l_z43 ?l_z7 ?l_z39 ?l_z24 ?l_z5 ?l_z45 ?l_z33 ?l_z0 ?l_z15 ?l_z12 ?l_z44 ?l_z29 ?l_z8 ?l_z41 ?l_z30 ?l_z4 ?l_z32 ?l_z40 ?l_z9 ?l_z61 ?l_z42 ?l_z35 ?l_z2 ?l_z37 ?l_z22 ?l_z13 ?l_z26 ?l_z21 ?l_z53 ?l_z60 ?l_z38 ?l_z48 ?l_z56 ?l_z47 ?l_z58 ?l_z36 ?l_z49 ?l_z50 ?l_z51 ?ek_LateError ?ek_NoState ?ek_NoText ?ke_NoText_NoState ?ke_NoText_NoWish ?ke_NoText_TooGreat ?kt_NoText ?cm_Bound_init ?cl_Bags ?mk_Bags ?na_Bags_room ?me_Bags_is_state ?me_Bags_is_wish ?cl_Filler ?mk_Filler ?na_Filler_packed ?na_Filler_spent ?na_Filler_standing ?na_Filler_world ?me_Filler_state ?cl_Hire ?mk_Hire ?na_Hire_whole ?me_Hire_is_state ?me_Hire_is_wish ?cl_Buyer ?mk_Buyer ?na_Buyer_spent ?na_Buyer_standing ?na_Buyer_world ?me_Buyer_state ?cl_Line ?mk_Line ?na_Line_many ?me_Line_is_state ?me_Line_is_wish ?cl_Both ?mk_Both ?na_Both_spent ?na_Both_standing ?na_Both_world ?me_Both_state ?cl_Shelf ?mk_Shelf ?na_Shelf_things ?me_Shelf_is_state ?me_Shelf_is_wish ?cl_Front ?mk_Front ?na_Front_spent ?na_Front_standing ?na_Front_world ?me_Front_state ?cl_Store ?mk_Store ?na_Store_many ?me_Store_is_state ?me_Store_is_wish ?cl_Keeper ?mk_Keeper ?na_Keeper_row ?na_Keeper_spent ?na_Keeper_standing ?na_Keeper_world ?me_Keeper_state ?cl_Ways ?mk_Ways ?na_Ways_many ?na_Ways_toll ?me_Ways_is_state ?me_Ways_is_wish ?cl_Changer ?mk_Changer ?na_Changer_reckoned ?na_Changer_spent ?na_Changer_standing ?na_Changer_world ?me_Changer_state ?z_ValueError ?z_abs ?z_all ?z_bool ?z_enumerate ?z_int ?z_isinstance ?z_len ?z_list ?z_max ?z_range ?z_set ?z_sorted ?z_str ?z_tuple ?z_zip ?zk_MOST_BAGS ?zk_MOST_ASKS ?zk_MOST_FIGURES ?va_FIRST_WORDS ?vl_FIRST_WORDS ?va_LENGTHS ?vl_LENGTHS ?vs_LENGTHS
  (case aC_LateError=>walk_at "k0")
  (case aC_NoState=>walk_at "k0")
  (case aC_NoWish=>walk_at "k0")
  (case aC_NoText=>walk_at "k0")
  (case aC_TooGreat=>walk_at "k0")
  (case aC_Rule=>walk_at "k0")
  (case aC_Bound=>walk_at "k0")
  (case aC_Bags=>walk_at "k0")
  (case aC_Filler=>walk_at "k0")
  (case aC_Hire=>walk_at "k0")
  (case aC_Buyer=>walk_at "k0")
  (case aC_Line=>walk_at "k0")
  (case aC_Both=>walk_at "k0")
  (case aC_Shelf=>walk_at "k0")
  (case aC_Front=>walk_at "k0")
  (case aC_Store=>walk_at "k0")
  (case aC_Keeper=>walk_at "k0")
  (case aC_Ways=>walk_at "k0")
  (case aC_Changer=>walk_at "k0")
  (case l_z65=>walk_at "kf")
  (case l_z27=>walk_at "kf")
  (case l_z57=>walk_at "kf")
  (case l_z52=>walk_at "kf")
  (case l_z20=>walk_at "kf")
  (case l_z54=>walk_at "kf")
  (case l_z19=>walk_at "kf")
  (case l_z3=>walk_at "kd")
  (case l_z34=>walk_at "kf")
  (case l_z14=>walk_at "kf")
  (case l_z6=>walk_at "kf")
  (case l_z1=>walk_at "kf")
  (case l_z11=>walk_at "kf")
  (case l_z59=>walk_at "kf")
  (case l_z18=>walk_at "kf")
  (case l_z46=>walk_at "kf")
  (case l_z16=>walk_at "kf")
  (case l_z10=>walk_at "kf")
  (case l_z17=>walk_at "kf")
  (case l_z55=>walk_at "kf")
  (case l_z64=>walk_at "kf")
  (case l_z63=>walk_at "kf")
  (case l_z25=>walk_at "kf")
  (case l_z28=>walk_at "kf")
  (case l_z31=>walk_at "kf")
  (case l_z62=>walk_at "kf")
  (case l_z23=>walk_at "kf")
  (case l_z43=>walk_at "kf")
  (case l_z7=>walk_at "kf")
  (case l_z39=>walk_at "kf")
  (case l_z24=>walk_at "kf")
  (case l_z5=>walk_at "kf")
  (case l_z45=>walk_at "kf")
  (case l_z33=>walk_at "kf")
  (case l_z0=>walk_at "kf")
  (case l_z15=>walk_at "kd")
  (case l_z12=>walk_at "kf")
  (case l_z44=>walk_at "kf")
  (case l_z29=>walk_at "kf")
  (case l_z8=>walk_at "kf")
  (case l_z41=>walk_at "kf")
  (case l_z30=>walk_at "kf")
  (case l_z4=>walk_at "kf")
  (case l_z32=>walk_at "kf")
  (case l_z40=>walk_at "kf")
  (case l_z9=>walk_at "kf")
  (case l_z61=>walk_at "kf")
  (case l_z42=>walk_at "kf")
  (case l_z35=>walk_at "kf")
  (case l_z2=>walk_at "kf")
  (case l_z37=>walk_at "kf")
  (case l_z22=>walk_at "kf")
  (case l_z13=>walk_at "kf")
  (case l_z26=>walk_at "kf")
  (case l_z21=>walk_at "kf")
  (case l_z53=>walk_at "kf")
  (case l_z60=>walk_at "kf")
  (case l_z38=>walk_at "kf")
  (case l_z48=>walk_at "kf")
  (case l_z56=>walk_at "kf")
  (case l_z47=>walk_at "kf")
  (case l_z58=>walk_at "kf")
  (case l_z36=>walk_at "kf")
  (case l_z49=>walk_at "kf")
  (case l_z50=>walk_at "kf")
  (case l_z51=>walk_at "kf")
  (case ek_LateError=>walk_at "ke")
  (case ek_NoState=>walk_at "ke")
  (case ek_NoText=>walk_at "ke")
  (case ke_NoText_NoState=>kit_is)
  (case ke_NoText_NoWish=>kit_is)
  (case ke_NoText_TooGreat=>kit_is)
  (case kt_NoText=>kit_is)
  (case cm_Bound_init=>walk_at "k4")
  (case cl_Bags=>walk_at "k4")
  (case mk_Bags=>walk_at "k4")
  (case na_Bags_room=>walk_at "kn")
  (case me_Bags_is_state=>walk_at "k3")
  (case me_Bags_is_wish=>walk_at "k3")
  (case cl_Filler=>walk_at "k4")
  (case mk_Filler=>walk_at "k4")
  (case na_Filler_packed=>walk_at "kn")
  (case na_Filler_spent=>walk_at "kn")
  (case na_Filler_standing=>walk_at "kn")
  (case na_Filler_world=>walk_at "kn")
  (case me_Filler_state=>walk_at "k3")
  (case cl_Hire=>walk_at "k4")
  (case mk_Hire=>walk_at "k4")
  (case na_Hire_whole=>walk_at "kn")
  (case me_Hire_is_state=>walk_at "k3")
  (case me_Hire_is_wish=>walk_at "k3")
  (case cl_Buyer=>walk_at "k4")
  (case mk_Buyer=>walk_at "k4")
  (case na_Buyer_spent=>walk_at "kn")
  (case na_Buyer_standing=>walk_at "kn")
  (case na_Buyer_world=>walk_at "kn")
  (case me_Buyer_state=>walk_at "k3")
  (case cl_Line=>walk_at "k4")
  (case mk_Line=>walk_at "k4")
  (case na_Line_many=>walk_at "kn")
  (case me_Line_is_state=>walk_at "k3")
  (case me_Line_is_wish=>walk_at "k3")
  (case cl_Both=>walk_at "k4")
  (case mk_Both=>walk_at "k4")
  (case na_Both_spent=>walk_at "kn")
  (case na_Both_standing=>walk_at "kn")
  (case na_Both_world=>walk_at "kn")
  (case me_Both_state=>walk_at "k3")
  (case cl_Shelf=>walk_at "k4")
  (case mk_Shelf=>walk_at "k4")
  (case na_Shelf_things=>walk_at "kn")
  (case me_Shelf_is_state=>walk_at "k3")
  (case me_Shelf_is_wish=>walk_at "k3")
  (case cl_Front=>walk_at "k4")
  (case mk_Front=>walk_at "k4")
  (case na_Front_spent=>walk_at "kn")
  (case na_Front_standing=>walk_at "kn")
  (case na_Front_world=>walk_at "kn")
  (case me_Front_state=>walk_at "k3")
  (case cl_Store=>walk_at "k4")
  (case mk_Store=>walk_at "k4")
  (case na_Store_many=>walk_at "kn")
  (case me_Store_is_state=>walk_at "k3")
  (case me_Store_is_wish=>walk_at "k3")
  (case cl_Keeper=>walk_at "k4")
  (case mk_Keeper=>walk_at "k4")
  (case na_Keeper_row=>walk_at "kn")
  (case na_Keeper_spent=>walk_at "kn")
  (case na_Keeper_standing=>walk_at "kn")
  (case na_Keeper_world=>walk_at "kn")
  (case me_Keeper_state=>walk_at "k3")
  (case cl_Ways=>walk_at "k4")
  (case mk_Ways=>walk_at "k4")
  (case na_Ways_many=>walk_at "kn")
  (case na_Ways_toll=>walk_at "kn")
  (case me_Ways_is_state=>walk_at "k3")
  (case me_Ways_is_wish=>walk_at "k3")
  (case cl_Changer=>walk_at "k4")
  (case mk_Changer=>walk_at "k4")
  (case na_Changer_reckoned=>walk_at "kn")
  (case na_Changer_spent=>walk_at "kn")
  (case na_Changer_standing=>walk_at "kn")
  (case na_Changer_world=>walk_at "kn")
  (case me_Changer_state=>walk_at "k3")
  (case z_ValueError=>walk_at "k0")
  (case z_abs=>walk_at "k0")
  (case z_all=>walk_at "k0")
  (case z_bool=>walk_at "k0")
  (case z_enumerate=>walk_at "k0")
  (case z_int=>walk_at "k0")
  (case z_isinstance=>walk_at "k0")
  (case z_len=>walk_at "k0")
  (case z_list=>walk_at "k0")
  (case z_max=>walk_at "k0")
  (case z_range=>walk_at "k0")
  (case z_set=>walk_at "k0")
  (case z_sorted=>walk_at "k0")
  (case z_str=>walk_at "k0")
  (case z_tuple=>walk_at "k0")
  (case z_zip=>walk_at "k0")
  (case zk_MOST_BAGS=>k_is)
  (case zk_MOST_ASKS=>k_is)
  (case zk_MOST_FIGURES=>k_is)
  (case va_FIRST_WORDS=>walk_at "k0")
  (case vl_FIRST_WORDS=>k_is)
  (case va_LENGTHS=>walk_at "k0")
  (case vl_LENGTHS=>k_is)
  (case vs_LENGTHS=>rfl)
end
namespace Q
open PySem PySem.Spec PyProof.Rows L2
local macro_rules | `(tactic| walk_at "v") => `(tactic| repeat walk_at "vs")
local macro_rules | `(tactic| walk_at "side")=>`(tactic| first | exact⟨by decide,by decide,by decide⟩ | exact Or.inl ⟨by omega,by omega⟩ | exact Or.inr (Or.inl ⟨by omega,by omega⟩) | exact⟨by omega,by omega⟩ | omega | decide)
local macro_rules | `(tactic| walk_at "hp")=>`(tactic| first | assumption | ((refine up (H:=?kH) ?ke ?kf);(case ke=>assumption);(case kf=>walk_at "hp")))
local macro_rules | `(tactic| walk_at "vs")=>`(tactic| first
 | ((with_reducible refine r_var (v:=?kv) ?kh ?_);(case kh=>exact rfl))
 | with_reducible refine r_op ?_
 | with_reducible refine r_c ?_
 | with_reducible refine r_seq ?_
 | with_reducible refine r_asg ?_
 | with_reducible refine jg9 ?_
 | with_reducible refine r_if ?_
 | with_reducible refine r_test ?_
 | with_reducible refine r_bl ?_
 | with_reducible refine r_I0 ?_
 | with_reducible refine jgs ?_
 | with_reducible refine jh4 ?_
 | with_reducible refine r_leWI ?_
 | with_reducible refine r_leWS ?_
 | ((with_reducible refine jd7 ?kc ?_);(case kc=>walk_at "side"))
 | with_reducible refine jgb ?_
 | with_reducible refine r_pow6 ?_
 | with_reducible refine r_pow9 ?_
 | with_reducible refine r_powM ?_
 | ((with_reducible refine r_I ?kc ?_);(case kc=>walk_at "side"))
 | with_reducible refine r_eqUI ?_
 | with_reducible refine r_neI ?_
 | with_reducible refine r_neUI ?_
 | with_reducible refine r_ret ?_
 | with_reducible refine r_next ?_
 | with_reducible refine r_drop ?_
 | with_reducible refine r_not ?_
 | with_reducible refine jgc ?_
 | with_reducible refine r_blT ?_
 | with_reducible refine r_and ?_
 | with_reducible refine r_or ?_
 | with_reducible refine r_andV ?_
 | with_reducible refine r_orV ?_
 | with_reducible refine r_notV ?_
 | with_reducible refine r_ifE ?_
 | with_reducible refine jgd ?_
 | with_reducible refine r_un ?_
 | with_reducible refine r_rU ?_
 | with_reducible refine r_call ?_
 | with_reducible refine r_cb ?_
 | with_reducible refine r_cons ?_
 | with_reducible refine r_nil ?_
 | with_reducible refine r_meth ?_
 | ((with_reducible refine r_self (dx:=?kd) (fs:=?kf) ?kh ?kl ?_);(case kh=>walk_at "hp");(case kl=>exact rfl))
 | with_reducible refine jge ?_
 | with_reducible refine jgf ?_
 | with_reducible refine r_make ?_
 | with_reducible refine r_fldK ?_
 | ((with_reducible refine r_fat (C:=?kC) (dx:=?kd) (fs:=?kf) (v:=?kv) ?kh ?kc ?kn ?kl ?_);(case kh=>walk_at "hp");(case kc=>assumption);(case kn=>assumption);(case kl=>exact rfl))
 | with_reducible refine r_sfld ?_
 | with_reducible refine r_tup ?_
 | with_reducible refine r_lst ?_
 | ((with_reducible refine r_newT ?kc ?_);(case kc=>exact rfl))
 | ((with_reducible refine r_newL ?kc ?_);(case kc=>exact rfl))
 | with_reducible refine r_dnew ?_
 | with_reducible refine r_retN ?_
 | with_reducible refine r_for ?_
 | with_reducible refine r_rng1 ?_
 | with_reducible refine r_rng2 ?_
 | with_reducible refine r_by2 ?_
 | with_reducible refine r_zip2 ?_
 | with_reducible refine r_enum ?_
 | with_reducible refine r_enum1 ?_
 | with_reducible refine r_comp ?_
 | with_reducible refine j27 ?_
 | with_reducible refine jej ?_
 | with_reducible refine r_gsub ?_
 | with_reducible refine r_sl ?_
 | with_reducible refine jeh ?_
 | with_reducible refine r_part ?_
 | with_reducible refine jgt ?_
 | with_reducible refine r_intT ?_
 | with_reducible refine jgg ?_
 | with_reducible refine r_itup ?_
 | with_reducible refine r_bm ?_
 | with_reducible refine r_bm0 ?_
 | ((with_reducible refine r_tyl (xs:=?kx) ?kh ?_);(case kh=>walk_at "hp"))
 | with_reducible refine r_tm ?_
 | ((with_reducible refine r_tyT (xs:=?kx) ?kh ?_);(case kh=>walk_at "hp"))
 | with_reducible refine r_sm ?_
 | with_reducible refine r_dget ?_
 | with_reducible refine r_dput ?_
 | with_reducible refine r_tyS ?_
 | with_reducible refine r_istr ?_
 | with_reducible refine r_gnil ?_
 | with_reducible refine jgh ?_
 | ((with_reducible refine jgi (xs:=?kx) ?kh ?kl ?_);(case kh=>walk_at "hp");(case kl=>exact rfl))
 | with_reducible refine r_max ?_
 | with_reducible refine r_min ?_
 | with_reducible refine r_abs ?_
 | with_reducible refine r_intI ?_
 | with_reducible refine r_intB ?_
 | with_reducible refine r_isN ?_
 | with_reducible refine r_notN ?_
 | with_reducible refine r_try ?_
 | with_reducible refine r_tryN ?_
 | with_reducible refine jer ?_
 | with_reducible refine r_getG ?_
 | with_reducible refine r_gone ?_
 | with_reducible refine jgx ?_
 | with_reducible refine r_terr ?_
 | ((with_reducible refine iteTc ?kh ?_);(case kh=>exact rfl))
 | ((with_reducible refine iteFc ?kh ?_);(case kh=>exact rfl)))
section
variable {P:Program}{w:World}{K:PySem.W.Frag}{mg:Str→Option Value}{base:Heap}{a:Adr}
seal PA PE PS PSs PT
theorem j25:FnScope ["_law_script","_law_word","_law_start_here","_law_cells","_law_wishes","_law_number","_law_lines_here","_law_bad","_law_at","_law_faulty","_law_place_here","_law_asks","_law_empty","_law_beyond","_law_due"] ["_law_script"] (j07 s_z65):=⟨rfl,rfl,rfl,by decide +kernel,rfl,by decide +kernel,by decide +kernel⟩
theorem jc8:FnScope ["_law_thing","_law_row","_law_kept","error"] ["_law_thing","_law_row"] (j07 s_z27):=⟨rfl,rfl,rfl,by decide +kernel,rfl,by decide +kernel,by decide +kernel⟩
theorem sc_z57:FnScope ["_law_found","_law_due"] ["_law_found","_law_due"] (j07 s_z57):=⟨rfl,rfl,rfl,by decide +kernel,rfl,by decide +kernel,by decide +kernel⟩
theorem sc_z52:FnScope ["_law_found"] ["_law_found"] (j07 s_z52):=⟨rfl,rfl,rfl,by decide +kernel,rfl,by decide +kernel,by decide +kernel⟩
theorem jes:FnScope ["_law_found","_law_due","_law_one","_law_other"] ["_law_found","_law_due"] (j07 s_z20):=⟨rfl,rfl,rfl,by decide +kernel,rfl,by decide +kernel,by decide +kernel⟩
theorem ja8:FnScope ["text","rows","first","word","start"] ["text"] (j07 s_z54):=⟨rfl,rfl,rfl,by decide +kernel,rfl,by decide +kernel,by decide +kernel⟩
theorem ja9:FnScope ["word","world","rows","wishes","row","line","wish"] ["word","world","rows"] (j07 s_z19):=⟨rfl,rfl,rfl,by decide +kernel,rfl,by decide +kernel,by decide +kernel⟩
theorem sc_z3:FnScope ["self","row"] ["self","row"] (j07 s_z3):=⟨rfl,rfl,rfl,by decide +kernel,rfl,by decide +kernel,by decide +kernel⟩
theorem jc9:FnScope ["word","world","line","ask","wish"] ["word","world","line"] (j07 s_z34):=⟨rfl,rfl,rfl,by decide +kernel,rfl,by decide +kernel,by decide +kernel⟩
theorem sc_z14:FnScope ["self","thing"] ["self","thing"] (j07 s_z14):=⟨rfl,rfl,rfl,by decide +kernel,rfl,by decide +kernel,by decide +kernel⟩
theorem sc_z6:FnScope ["thing","most"] ["thing","most"] (j07 s_z6):=⟨rfl,rfl,rfl,by decide +kernel,rfl,by decide +kernel,by decide +kernel⟩
theorem sc_z1:FnScope ["thing"] ["thing"] (j07 s_z1):=⟨rfl,rfl,rfl,by decide +kernel,rfl,by decide +kernel,by decide +kernel⟩
theorem sc_z11:FnScope ["self","thing"] ["self","thing"] (j07 s_z11):=⟨rfl,rfl,rfl,by decide +kernel,rfl,by decide +kernel,by decide +kernel⟩
theorem sc_z59:FnScope ["thing"] ["thing"] (j07 s_z59):=⟨rfl,rfl,rfl,by decide +kernel,rfl,by decide +kernel,by decide +kernel⟩
theorem sc_z18:FnScope ["self","thing"] ["self","thing"] (j07 s_z18):=⟨rfl,rfl,rfl,by decide +kernel,rfl,by decide +kernel,by decide +kernel⟩
theorem sc_z46:FnScope ["thing"] ["thing"] (j07 s_z46):=⟨rfl,rfl,rfl,by decide +kernel,rfl,by decide +kernel,by decide +kernel⟩
theorem sc_z16:FnScope ["self","thing"] ["self","thing"] (j07 s_z16):=⟨rfl,rfl,rfl,by decide +kernel,rfl,by decide +kernel,by decide +kernel⟩
theorem sc_z10:FnScope ["self","thing"] ["self","thing"] (j07 s_z10):=⟨rfl,rfl,rfl,by decide +kernel,rfl,by decide +kernel,by decide +kernel⟩
theorem sc_z17:FnScope ["self","thing"] ["self","thing"] (j07 s_z17):=⟨rfl,rfl,rfl,by decide +kernel,rfl,by decide +kernel,by decide +kernel⟩
theorem sc_z55:FnScope ["thing"] ["thing"] (j07 s_z55):=⟨rfl,rfl,rfl,by decide +kernel,rfl,by decide +kernel,by decide +kernel⟩
theorem jhk:FnScope ["line","words"] ["line"] (j07 s_z64):=⟨rfl,rfl,rfl,by decide +kernel,rfl,by decide +kernel,by decide +kernel⟩
theorem sc_z63:FnScope ["word"] ["word"] (j07 s_z63):=⟨rfl,rfl,rfl,by decide +kernel,rfl,by decide +kernel,by decide +kernel⟩
theorem sc_z25:FnScope ["text"] ["text"] (j07 s_z25):=⟨rfl,rfl,rfl,by decide +kernel,rfl,by decide +kernel,by decide +kernel⟩
theorem jhl:FnScope ["word","start","rule"] ["word","start"] (j07 s_z28):=⟨rfl,rfl,rfl,by decide +kernel,rfl,by decide +kernel,by decide +kernel⟩
theorem j8j:FnScope ["self"] ["self"] (j07 s_z31):=⟨rfl,rfl,rfl,by decide +kernel,rfl,by decide +kernel,by decide +kernel⟩
theorem sc_z62:FnScope ["word","start"] ["word","start"] (j07 s_z62):=⟨rfl,rfl,rfl,by decide +kernel,rfl,by decide +kernel,by decide +kernel⟩
theorem sc_z23:FnScope ["self","room"] ["self","room"] (j07 s_z23):=⟨rfl,rfl,rfl,by decide +kernel,rfl,by decide +kernel,by decide +kernel⟩
theorem j8k:FnScope ["self","world","start"] ["self","world","start"] (j07 s_z43):=⟨rfl,rfl,rfl,by decide +kernel,rfl,by decide +kernel,by decide +kernel⟩
theorem sc_z7:FnScope ["self","thing"] ["self","thing"] (j07 s_z7):=⟨rfl,rfl,rfl,by decide +kernel,rfl,by decide +kernel,by decide +kernel⟩
theorem sc_z39:FnScope ["self","room"] ["self","room"] (j07 s_z39):=⟨rfl,rfl,rfl,by decide +kernel,rfl,by decide +kernel,by decide +kernel⟩
theorem sc_z24:FnScope ["self","pages"] ["self","pages"] (j07 s_z24):=⟨rfl,rfl,rfl,by decide +kernel,rfl,by decide +kernel,by decide +kernel⟩
theorem sc_z5:FnScope ["self","thing"] ["self","thing"] (j07 s_z5):=⟨rfl,rfl,rfl,by decide +kernel,rfl,by decide +kernel,by decide +kernel⟩
theorem sc_z45:FnScope ["thing"] ["thing"] (j07 s_z45):=⟨rfl,rfl,rfl,by decide +kernel,rfl,by decide +kernel,by decide +kernel⟩
theorem sc_z33:FnScope ["self","many"] ["self","many"] (j07 s_z33):=⟨rfl,rfl,rfl,by decide +kernel,rfl,by decide +kernel,by decide +kernel⟩
theorem sc_z0:FnScope ["thing"] ["thing"] (j07 s_z0):=⟨rfl,rfl,rfl,by decide +kernel,rfl,by decide +kernel,by decide +kernel⟩
theorem sc_z15:FnScope ["self","many","toll","start"] ["self","many","toll","start"] (j07 s_z15):=⟨rfl,rfl,rfl,by decide +kernel,rfl,by decide +kernel,by decide +kernel⟩
theorem sc_z12:FnScope ["self","thing"] ["self","thing"] (j07 s_z12):=⟨rfl,rfl,rfl,by decide +kernel,rfl,by decide +kernel,by decide +kernel⟩
theorem sc_z44:FnScope ["self","many","toll"] ["self","many","toll"] (j07 s_z44):=⟨rfl,rfl,rfl,by decide +kernel,rfl,by decide +kernel,by decide +kernel⟩
theorem sc_z29:FnScope ["self","whole"] ["self","whole"] (j07 s_z29):=⟨rfl,rfl,rfl,by decide +kernel,rfl,by decide +kernel,by decide +kernel⟩
theorem sc_z8:FnScope ["self","thing"] ["self","thing"] (j07 s_z8):=⟨rfl,rfl,rfl,by decide +kernel,rfl,by decide +kernel,by decide +kernel⟩
theorem sc_z41:FnScope ["self","whole"] ["self","whole"] (j07 s_z41):=⟨rfl,rfl,rfl,by decide +kernel,rfl,by decide +kernel,by decide +kernel⟩
theorem sc_z30:FnScope ["self","start"] ["self","start"] (j07 s_z30):=⟨rfl,rfl,rfl,by decide +kernel,rfl,by decide +kernel,by decide +kernel⟩
theorem sc_z4:FnScope ["self","thing"] ["self","thing"] (j07 s_z4):=⟨rfl,rfl,rfl,by decide +kernel,rfl,by decide +kernel,by decide +kernel⟩
theorem sc_z32:FnScope ["self","things"] ["self","things"] (j07 s_z32):=⟨rfl,rfl,rfl,by decide +kernel,rfl,by decide +kernel,by decide +kernel⟩
theorem sc_z40:FnScope ["self","start"] ["self","start"] (j07 s_z40):=⟨rfl,rfl,rfl,by decide +kernel,rfl,by decide +kernel,by decide +kernel⟩
theorem sc_z9:FnScope ["self","thing"] ["self","thing"] (j07 s_z9):=⟨rfl,rfl,rfl,by decide +kernel,rfl,by decide +kernel,by decide +kernel⟩
theorem sc_z61:FnScope ["start"] ["start"] (j07 s_z61):=⟨rfl,rfl,rfl,by decide +kernel,rfl,by decide +kernel,by decide +kernel⟩
theorem sc_z42:FnScope ["self","many"] ["self","many"] (j07 s_z42):=⟨rfl,rfl,rfl,by decide +kernel,rfl,by decide +kernel,by decide +kernel⟩
theorem sc_z35:FnScope ["word","start"] ["word","start"] (j07 s_z35):=⟨rfl,rfl,rfl,by decide +kernel,rfl,by decide +kernel,by decide +kernel⟩
theorem sc_z2:FnScope ["text"] ["text"] (j07 s_z2):=⟨rfl,rfl,rfl,by decide +kernel,rfl,by decide +kernel,by decide +kernel⟩
theorem jet:FnScope ["_law_word","_law_start_here","_law_number","_law_over","_law_parts"] ["_law_word","_law_start_here","_law_number"] (j07 s_z37):=⟨rfl,rfl,rfl,by decide +kernel,rfl,by decide +kernel,by decide +kernel⟩
theorem jhm:FnScope ["_law_names_here","_law_name"] ["_law_names_here"] (j07 s_z22):=⟨rfl,rfl,rfl,by decide +kernel,rfl,by decide +kernel,by decide +kernel⟩
theorem j5r:FnScope ["_law_number","_law_some"] ["_law_number"] (j07 s_z13):=⟨rfl,rfl,rfl,by decide +kernel,rfl,by decide +kernel,by decide +kernel⟩
theorem jca:FnScope ["_law_number","_law_some"] ["_law_number"] (j07 s_z26):=⟨rfl,rfl,rfl,by decide +kernel,rfl,by decide +kernel,by decide +kernel⟩
theorem jhn:FnScope ["_law_thing"] [] (j07 s_z21):=⟨rfl,rfl,rfl,by decide +kernel,rfl,by decide +kernel,by decide +kernel⟩
theorem sc_z53:FnScope ["_law_thing"] ["_law_thing"] (j07 s_z53):=⟨rfl,rfl,rfl,by decide +kernel,rfl,by decide +kernel,by decide +kernel⟩
theorem jcb:FnScope ["_law_lines_here","_law_at","_law_line","_law_places","_law_place_here"] ["_law_lines_here","_law_at","_law_line"] (j07 s_z60):=⟨rfl,rfl,rfl,by decide +kernel,rfl,by decide +kernel,by decide +kernel⟩
theorem jcc:FnScope ["_law_script","_law_lines_here","_law_found","_law_k"] ["_law_script","_law_lines_here"] (j07 s_z38):=⟨rfl,rfl,rfl,by decide +kernel,rfl,by decide +kernel,by decide +kernel⟩
theorem jho:FnScope ["_law_cell_here","_law_k","_law_number"] ["_law_cell_here","_law_k"] (j07 s_z48):=⟨rfl,rfl,rfl,by decide +kernel,rfl,by decide +kernel,by decide +kernel⟩
theorem sc_z56:FnScope ["_law_script","_law_k"] ["_law_script","_law_k"] (j07 s_z56):=⟨rfl,rfl,rfl,by decide +kernel,rfl,by decide +kernel,by decide +kernel⟩
theorem sc_z47:FnScope ["_law_word","_law_start_here","_law_wishes"] ["_law_word","_law_start_here","_law_wishes"] (j07 s_z47):=⟨rfl,rfl,rfl,by decide +kernel,rfl,by decide +kernel,by decide +kernel⟩
theorem jhp:FnScope ["_law_word","_law_start_here","_law_cell_here","_law_k","_law_number"] ["_law_word","_law_start_here","_law_cell_here","_law_k"] (j07 s_z58):=⟨rfl,rfl,rfl,by decide +kernel,rfl,by decide +kernel,by decide +kernel⟩
theorem jhq:FnScope ["_law_cell_here","_law_k","_law_number"] ["_law_cell_here","_law_k"] (j07 s_z36):=⟨rfl,rfl,rfl,by decide +kernel,rfl,by decide +kernel,by decide +kernel⟩
theorem j8l:FnScope ["_law_number","_law_many","_law_stem","_law_at","_law_names_here","_law_j","_law_sign"] ["_law_number","_law_many"] (j07 s_z49):=⟨rfl,rfl,rfl,by decide +kernel,rfl,by decide +kernel,by decide +kernel⟩
theorem sc_z50:FnScope ["_law_cell_here","_law_k"] ["_law_cell_here","_law_k"] (j07 s_z50):=⟨rfl,rfl,rfl,by decide +kernel,rfl,by decide +kernel,by decide +kernel⟩
theorem jcd:FnScope ["_law_script","_law_cell_here","_law_number","_law_word"] ["_law_script"] (j07 s_z51):=⟨rfl,rfl,rfl,by decide +kernel,rfl,by decide +kernel,by decide +kernel⟩
namespace Nb
end Nb
namespace Nb
def gfl (wo st q:Addr) (z:Int):List (Str × V):=[("world",.ref wo),("standing",.ref st),("spent",.int z),("packed",.ref q)]
structure BagAt (a:Adr) (H:Hp) (r:Addr) (R:Int) (ps ss:List Int) (z:Int):Prop where
 ex:∃ dx wo dw st q,H r=some (.ins a.c_Filler dx (gfl wo st q z))∧H wo=some (.ins a.c_Bags dw [("room",.int R)])∧H st=some (.tup (ss.map V.int))∧H q=some (.lst (ps.map V.int))
structure BagQ (a:Adr) (H:Hp) (r:Addr) (R:Int) (ps ss:List Int) (z:Int) (q:Addr):Prop where
 ex:∃ dx wo dw st,H r=some (.ins a.c_Filler dx (gfl wo st q z))∧H wo=some (.ins a.c_Bags dw [("room",.int R)])∧H st=some (.tup (ss.map V.int))∧H q=some (.lst (ps.map V.int))
end Nb
namespace Nb
def Goes (R:Int) (os:List Int) (s:Int) (fs:List Int) (pr:Int):Prop:=fs.Pairwise (·≤·)∧((pr=1∧fs.Perm (os++[s]))∨(pr=0∧∃ k,k < os.length∧os.getD k 0+s≤R∧fs.Perm (os.set k (os.getD k 0+s))))
end Nb
namespace Nh
def bfl (wo:Addr) (st z:Int):List (Str × V):=[("world",.ref wo),("standing",.int st),("spent",.int z)]
def hfl (W:Int):List (Str × V):=[("whole",.int W)]
structure BuyAt (a:Adr) (H:Hp) (r:Addr) (W st z:Int):Prop where
 ex:∃ dx wo dw,H r=some (.ins a.c_Buyer dx (bfl wo st z))∧H wo=some (.ins a.c_Hire dw (hfl W))
end Nh
namespace Nl
def lfl (wo st:Addr) (z:Int):List (Str × V):=[("world",.ref wo),("standing",.ref st),("spent",.int z)]
structure LineAt (a:Adr) (C:Addr) (H:Hp) (r:Addr) (ns:List Int) (z:Int):Prop where
 ex:∃ dx wo dw st,H r=some (.ins C dx (lfl wo st z))∧H wo=some (.ins a.c_Line dw [("many",.int ns.length)])∧H st=some (.tup (ns.map V.int))
structure Good (ns:List Int):Prop where
 lo:1≤ns.length
 hi:ns.length≤6
 srt:ns.Pairwise (·≤·)
 pl:∀ x∈ns,-1000000000000000000≤x∧x≤1000000000000000000
def ways (ns ms:List Int):Int:=(List.zipWith (fun a b:Int=>((a-b).natAbs:Int)) ns ms).sum
inductive Goes (w:Int):List Int→List Int→Prop where
 | stay {ns:List Int} (h:w∈ns):Goes w ns ns
 | up {L:List Int}{l:Int} (h:l < w):Goes w (L++[l]) (L++[w])
 | down {R:List Int}{r:Int} (h:w < r):Goes w (r :: R) (w :: R)
 | both {L R:List Int}{l r s:Int} (h1:l < w) (h2:w < r) (hs:s=min (w-l) (r-w)):Goes w (L++l :: r :: R) (L++(l+s) :: (r-s) :: R)
end Nl
namespace Nl
def NoLen (H:Hp) (v:V):Prop:=(∃ k,HasK H v k∧k≠.tup)∨∃ (p:Addr) (xs:List V),v=.ref p∧H p=some (.tup xs)∧¬ (1≤xs.length∧xs.length≤6)
theorem NoLen.mono {H H':Hp}{v:V} (e:Ext H H') (h:NoLen H v):NoLen H' v:=by
 rcases h with⟨k,h1,h2⟩ | ⟨p,xs,h1,h2,h3⟩
 ·exact .inl ⟨k,h1.mono e,h2⟩
 ·exact .inr ⟨p,xs,h1,e _ _ h2,h3⟩
end Nl
def nmL (c:Nat):Bool:=decide (97≤c) && decide (c≤122)
def nmS (z:Str):Bool:=decide (1≤z.length) && decide (z.length≤8) && z.cps.toList.all nmL
theorem j7v {z:Str} (h:nmS z=true):AscS z:=by
 unfold nmS at h
 rw[Bool.and_eq_true] at h
 unfold AscS
 rw[Array.all_eq_true_iff_forall_mem]
 intro c hc
 have:=List.all_eq_true.mp h.2 c (by simpa using hc)
 unfold nmL at this
 rw[Bool.and_eq_true,decide_eq_true_iff,decide_eq_true_iff] at this
 exact decide_eq_true (by omega)
theorem j22 {z:Str} (h:nmS z=true):1≤z.length∧z.length≤8:=by
 unfold nmS at h
 rw[Bool.and_eq_true,Bool.and_eq_true,decide_eq_true_iff,decide_eq_true_iff] at h
 exact h.1
theorem cps_a:(Str.ofString "a").cps.toList=[97]:=by decide
theorem cps_z:(Str.ofString "z").cps.toList=[122]:=by decide
theorem le_a (c:Nat):(!decide (([c]:List Nat) < [97]))=decide (97≤c):=by
 rw[← decide_not]
 apply decide_eq_decide.mpr
 rw[List.cons_lt_cons_iff]
 simp
theorem le_z (c:Nat):(!decide (([122]:List Nat) < [c]))=decide (c≤122):=by
 rw[← decide_not]
 apply decide_eq_decide.mpr
 rw[List.cons_lt_cons_iff]
 simp
def nmV:V→Bool
 | .str z=>nmS z
 | _=>false
structure Names (ss:List Str):Prop where
 nm:∀ s∈ss,nmS s=true
 nd:ss.Nodup
 lo:1≤ss.length
 hi:ss.length≤8
theorem Names.perm {ss qs:List Str} (h:Names ss) (p:qs.Perm ss):Names qs:=⟨fun s hs=>h.nm s (p.mem_iff.mp hs),p.nodup_iff.mpr h.nd,by rw[p.length_eq];exact h.lo,by rw[p.length_eq];exact h.hi⟩
theorem ones:∀ (n N:Nat),n≤N→((List.range N).map fun i=>if i < n then (1:Int) else 0).sum=n
 | n,0,h=>by
  have:n=0:=by omega
  subst this
  rfl
 | n,N+1,h=>by
  rw[List.range_succ,List.map_append,List.sum_append]
  by_cases e:n=N+1
  ·subst e
   have:(List.range N).map (fun i=>if i < N+1 then (1:Int) else 0)=(List.range N).map fun i=>if i < N then (1:Int) else 0:=List.map_congr_left fun i hi=>by
    have:=List.mem_range.mp hi
    rw[if_pos (by omega),if_pos this]
   rw[this,ones N N (Nat.le_refl _)]
   simp
  ·rw[ones n N (by omega)]
   simp
   omega
theorem j5s:∀ {l:List Str},sortedS l=true→l.Pairwise fun a b=>¬ b.cps.toList < a.cps.toList
 | [],_=>List.Pairwise.nil
 | x :: r,h=>by
  have key:∀ (p:Str) (l:List Str),risingS p l=true→(p :: l).Pairwise fun a b=>¬ b.cps.toList < a.cps.toList:=by
   intro p l
   induction l generalizing p with
   | nil=>intro _;simp
   | cons y r ih =>
    intro h
    have h':(!ltCps y.cps.toList p.cps.toList && risingS y r)=true:=h
    rw[Bool.and_eq_true] at h'
    have h2:=ih y h'.2
    have h1:¬ y.cps.toList < p.cps.toList:=by
     have:=h'.1
     rw[ltCps_eq] at this
     simpa using this
    refine List.pairwise_cons.mpr ⟨fun z hz=>?_,h2⟩
    rcases List.mem_cons.mp hz with rfl | hz
    ·exact h1
    ·have h3:=(List.pairwise_cons.mp h2).1 z hz
     exact fun q=>h1 (List.lt_of_le_of_lt (List.not_lt.mp h3) q)
  exact key x r h
theorem jhr {a b:Str} (h:a.cps.toList=b.cps.toList):a=b:=by
 cases a;cases b
 congr 1
 exact Array.toList_inj.mp h
theorem j3i {a b:List Str} (p:a.Perm b) (ha:sortedS a=true) (hb:sortedS b=true):a=b :=
 List.Perm.eq_of_pairwise (fun x y _ _ h1 h2=>jhr (List.le_antisymm (List.not_lt.mp h1) (List.not_lt.mp h2))) (j5s ha) (j5s hb) p
theorem jaa (x:Str) (ss:List Str):inV (.str x) (ss.map V.str)=decide (x∈ss):=by
 unfold inV
 rw[List.any_map,Bool.eq_iff_iff,List.any_eq_true,decide_eq_true_iff]
 constructor
 ·rintro⟨y,hy,e⟩
  have:y=x:=by simpa[eqV] using e
  exact this ▸ hy
 ·intro h
  exact⟨x,h,by simp[eqV]⟩
theorem j7w (ss:List Str):(ss.map V.str).all j8c=true:=by rw[List.all_map,List.all_eq_true];intro x _;rfl
theorem jab {ss:List Str}{k:Int} (h0:0≤k) (h1:k < ss.length):atI (ss.map V.str) k=some (.str (ss.getD k.toNat ⟨#[]⟩)):=by
 refine j18 h0 ?_
 rw[List.getElem?_map,List.getD_eq_getElem?_getD,List.getElem?_eq_getElem (show k.toNat < ss.length by omega)]
 rfl
theorem j3b {H:Hp}{p:Addr}{ss:List Str} (h:H p=some (.lst (ss.map V.str))):Rep H (.lst (ss.map D.str)) (.ref p):=Rep.lstI h (by
 clear h
 induction ss with
 | nil=>exact .nil
 | cons x r ih=>exact .cons .strI ih)
theorem depS (ss:List Str):D.depthL (ss.map D.str)=0:=by
 induction ss with
 | nil=>rfl
 | cons x r ih=>show max 0 (D.depthL (r.map D.str))=0;rw[ih];rfl
theorem jeu {z:Str} (h:nmS z=true):PyData.strOk z=true:=by
 have h1:=j7v h
 unfold AscS at h1
 unfold PyData.strOk
 rw[Array.all_eq_true_iff_forall_mem] at h1 ⊢
 intro c hc
 have:=of_decide_eq_true (h1 c hc)
 exact decide_eq_true (by omega)
theorem jfk:∀ {ss:List Str},(∀ s∈ss,nmS s=true)→(D.lst (ss.map D.str)).eqOk=true
 | [],_=>rfl
 | x :: r,h=>by
  show (PyData.strOk x && D.eqOkL (r.map D.str))=true
  rw[jeu (h x List.mem_cons_self),Bool.true_and]
  exact jfk (ss:=r) fun s hs=>h s (List.mem_cons_of_mem _ hs)
theorem jac {ss:List Str} (h:∀ s∈ss,nmS s=true):eqD (.lst (ss.map D.str)) (.lst (ss.map D.str))=true:=SeqAt.eqv_refl _ (D.canLay _ (jfk h))
def ItemOk (H:Hp) (x:V):Prop:=∃ k,HasK H x k∧∀ z,x=.str z→AscS z∧z.length≤1000
theorem ItemOk.mono {H H':Hp}{x:V} (e:Ext H H') (h:ItemOk H x):ItemOk H' x:=by
 obtain⟨k,h1,h2⟩:=h
 exact⟨k,h1.mono e,h2⟩
theorem ItemOk.nm {H:Hp}{z:Str} (h:nmS z=true):ItemOk H (.str z):=⟨.str,rfl,fun y e=>by cases e;exact⟨j7v h,by have:=j22 h;omega⟩⟩
theorem ItemOk.flat {H:Hp}{x:V}{k:Kd} (h:HasK H x k) (n:∀ z,x≠.str z):ItemOk H x:=⟨k,h,fun z e=>(n z e).elim⟩
def NoNm (H:Hp) (v:V):Prop:=(∃ k,HasK H v k∧k≠.tup)∨(∃ p xs,v=.ref p∧H p=some (.tup xs)∧xs.length≤1000∧(∀ x∈xs,ItemOk H x)∧∃ x∈xs,nmV x=false)∨∃ (p:Addr) (ss:List Str),v=.ref p∧H p=some (.tup (ss.map V.str))∧ss.length≤1000∧(∀ s∈ss,nmS s=true)∧¬ ss.Nodup
def NoRow (H:Hp) (v:V):Prop:=NoNm H v∨∃ (p:Addr) (ss:List Str),v=.ref p∧H p=some (.tup (ss.map V.str))∧ss.length≤1000∧(∀ s∈ss,nmS s=true)∧ss.Nodup∧¬ (1≤ss.length∧ss.length≤8)
theorem NoNm.mono {H H':Hp}{v:V} (e:Ext H H') (h:NoNm H v):NoNm H' v:=by
 rcases h with⟨k,h1,h2⟩ | ⟨p,xs,h1,h2,h3,h4,h5⟩ | ⟨p,ss,h1,h2,h3⟩
 ·exact .inl ⟨k,h1.mono e,h2⟩
 ·exact .inr (.inl ⟨p,xs,h1,e _ _ h2,h3,fun x hx=>(h4 x hx).mono e,h5⟩)
 ·exact .inr (.inr ⟨p,ss,h1,e _ _ h2,h3⟩)
theorem NoRow.mono {H H':Hp}{v:V} (e:Ext H H') (h:NoRow H v):NoRow H' v:=by
 rcases h with h | ⟨p,ss,h1,h2,h3⟩
 ·exact .inl (h.mono e)
 ·exact .inr ⟨p,ss,h1,e _ _ h2,h3⟩
theorem nm_bad {z:Str}{c:Nat} (h:c∈z.cps.toList) (hc:nmL c=false):nmS z=false:=by
 unfold nmS
 have:z.cps.toList.all nmL=false:=by
  rw[Bool.eq_false_iff]
  intro q
  rw[List.all_eq_true] at q
  rw[q c h] at hc
  cases hc
 rw[this,Bool.and_false]
theorem jhs {z:Str}:AscS z↔∀ c∈z.cps.toList,c < 128:=by
 unfold AscS
 rw[Array.all_eq_true_iff_forall_mem]
 constructor
 ·intro h c hc
  exact of_decide_eq_true (h c (by simpa using hc))
 ·intro h c hc
  exact decide_eq_true (h c (by simpa using hc))
instance ascDec (z:Str):Decidable (AscS z):=decidable_of_iff (∀ c∈z.cps.toList,c < 128) jhs.symm
theorem ItemOk.str {H:Hp}{z:Str} (h:AscS z) (l:z.length≤1000):ItemOk H (.str z):=⟨.str,rfl,fun y e=>by cases e;exact⟨h,l⟩⟩
mutual
def plD:D→Bool
 | .int _=>true
 | .str _=>true
 | .tup l=>plDL l
 | .lst l=>plDL l
 | _=>false
def plDL:List D→Bool
 | []=>true
 | d :: r=>plD d && plDL r
end
theorem jde:∀ {l:List D}{i:Nat}{d:D},plDL l=true→l[i]?=some d→plD d=true
 | [],_,_,_,e=>by simp at e
 | x :: r,0,d,h,e=>by simp at e;subst e;unfold plDL at h;exact (Bool.and_eq_true_iff.mp h).1
 | x :: r,i+1,d,h,e=>by unfold plDL at h;exact jde (Bool.and_eq_true_iff.mp h).2 (by simpa using e)
theorem plI (ns:List Int):plD (.tup (ns.map D.int))=true:=by
 show plDL (ns.map D.int)=true
 induction ns with
 | nil=>rfl
 | cons n r ih=>show (plD (.int n) && plDL (r.map D.int))=true;rw[ih];rfl
namespace Ns
def sfl (wo st:Addr) (z:Int):List (Str × V):=[("world",.ref wo),("standing",.ref st),("spent",.int z)]
structure ShelfAt (a:Adr) (H:Hp) (r:Addr) (ss ts:List Str) (z:Int):Prop where
 ex:∃ dx wo dw st tp,H r=some (.ins a.c_Front dx (sfl wo st z))∧H wo=some (.ins a.c_Shelf dw [("things",.ref tp)])∧H st=some (.tup (ss.map V.str))∧H tp=some (.tup (ts.map V.str))
end Ns
namespace Nk
theorem cut_from {ss:List Str}{i:Nat} (h:i≤ss.length):cutV (ss.map V.str) (some (i:Int)) none=(ss.drop i).map V.str:=by
 unfold cutV
 rw[HT.sIx_nat,HT.sIx_none,List.length_map,Nat.min_eq_left h,← List.map_drop,List.take_of_length_le (by rw[List.length_map,List.length_drop];exact Nat.le_refl _)]
theorem cut_to {ss:List Str}{i:Nat} (h:i≤ss.length):cutV (ss.map V.str) none (some (i:Int))=(ss.take i).map V.str:=by
 unfold cutV
 rw[HT.sIx_none,HT.sIx_nat,List.length_map,Nat.min_eq_left h,List.drop_zero,Nat.sub_zero,List.map_take]
end Nk
namespace Nk
def kfl (wo st:Addr) (z:Int) (rw:Addr):List (Str × V):=[("world",.ref wo),("standing",.ref st),("spent",.int z),("row",.ref rw)]
structure KeepR (a:Adr) (H:Hp) (r:Addr) (row:List Str) (z:Int) (dx wo dw st q:Addr) (ss:List Str):Prop where
 hr:H r=some (.ins a.c_Keeper dx (kfl wo st z q))
 hw:H wo=some (.ins a.c_Store dw [("many",.int (row.length:Nat))])
 hs:H st=some (.tup (ss.map V.str))
 hq:H q=some (.lst (row.map V.str))
 pm:ss.Perm row
 so:sortedS ss=true
structure KeepAt (a:Adr) (H:Hp) (r:Addr) (row:List Str) (z:Int):Prop where
 ex:∃ dx wo dw st q ss,KeepR a H r row z dx wo dw st q ss
end Nk
namespace Nw
def wfl (wo q:Addr) (h z:Int):List (Str × V):=[("world",.ref wo),("standing",.int h),("spent",.int z),("reckoned",.ref q)]
structure WaysAt (a:Adr) (H:Hp) (r:Addr) (ns:List Int) (h t z:Int):Prop where
 ex:∃ dx wo dw q,H r=some (.ins a.c_Changer dx (wfl wo q h z))∧H wo=some (.ins a.c_Ways dw [("many",.int ns.length),("toll",.int t)])∧H q=some (.lst (ns.map V.int))
def fstW (n:Nat) (t h:Int):List Int:=(List.range n).map fun (i:Nat)=>if (i:Int)=h then (0:Int) else t
structure WOk (ns:List Int) (h t:Int):Prop where
 lo:1≤ns.length
 hi:ns.length≤8
 h0:0≤h
 h1:h < ns.length
 t0:0≤t
 t1:t≤1000000000000000000
 near:∀ x∈ns,x≤mn ns+t
structure ChOk (ns cs:List Int):Prop where
 len:cs.length=ns.length
 am:∀ c∈cs,0≤c∧c≤1000000000000000000
theorem fst_len {n:Nat}{t h:Int}:(fstW n t h).length=n:=by unfold fstW;simp
end Nw
inductive W83
 | i (z:Int)
 | s (x:Str)
 | l (cs:List Int)
def W83.at_ (H:Hp):W83→V→Prop
 | .i z,v=>v=.int z
 | .s x,v=>v=.str x
 | .l cs,v=>∃ p,v=.ref p∧H p=some (.tup (cs.map V.int))
theorem W83.mono {H H':Hp} (e:∀ p cs,H p=some (.tup cs)→H' p=some (.tup cs)) {w:W83}{v:V} (h:w.at_ H v):w.at_ H' v:=by
 cases w with
 | l cs=>obtain⟨p,h1,h2⟩:=h;exact⟨p,h1,e _ _ h2⟩
 | _=>exact h
inductive RS
 | line (m:Nat) (ns:List Int) (z:Int)
 | shelf (ts ss:List Str) (z:Int)
 | hire (W st z:Int)
 | ways (n:Nat) (t:Int) (ns:List Int) (h z:Int)
 | store (m:Nat) (row:List Str) (z:Int)
 | bags (R:Int) (ps:List Int) (z:Int)
def RS.at_ (a:Adr) (H:Hp) (r:Addr):RS→Prop
 | .line _ ns z=>Nl.LineAt a a.c_Both H r ns z
 | .shelf ts ss z=>Ns.ShelfAt a H r ss ts z
 | .hire W st z=>Nh.BuyAt a H r W st z
 | .ways _ t ns h z=>Nw.WaysAt a H r ns h t z
 | .store _ row z=>Nk.KeepAt a H r row z
 | .bags R ps z=>∃ ss,Nb.BagAt a H r R ps ss z∧ss.Perm ps∧ss.Pairwise (·≤·)
def RS.wo (a:Adr) (H:Hp) (w:Addr):RS→Prop
 | .line m _ _=>∃ dw,H w=some (.ins a.c_Line dw [("many",.int (m:Nat))])
 | .shelf ts _ _=>∃ dw tp,H w=some (.ins a.c_Shelf dw [("things",.ref tp)])∧H tp=some (.tup (ts.map V.str))
 | .hire W _ _=>∃ dw,H w=some (.ins a.c_Hire dw [("whole",.int W)])
 | .ways n t _ _ _=>∃ dw,H w=some (.ins a.c_Ways dw [("many",.int (n:Nat)),("toll",.int t)])
 | .store m _ _=>∃ dw,H w=some (.ins a.c_Store dw [("many",.int (m:Nat))])
 | .bags R _ _=>∃ dw,H w=some (.ins a.c_Bags dw [("room",.int R)])
theorem RS.woM {a:Adr}{H H':Hp}{w:Addr} (e:∀ p o,(p=w∨∃ xs,o=.tup xs)→H p=some o→H' p=some o) {s:RS} (h:s.wo a H w):s.wo a H' w:=by
 cases s with
 | shelf ts ss z=>obtain⟨dw,tp,h1,h2⟩:=h;exact⟨dw,tp,e _ _ (.inl rfl) h1,e _ _ (.inr ⟨_,rfl⟩) h2⟩
 | _=>obtain⟨dw,h1⟩:=h;exact⟨dw,e _ _ (.inl rfl) h1⟩
theorem RS.woE {a:Adr}{H H':Hp}{w:Addr} (e:Ext H H') {s:RS} (h:s.wo a H w):s.wo a H' w:=RS.woM (fun p o _ h=>e _ _ h) h
def RS.st (H:Hp):RS→V→Prop
 | .line _ ns _,v=>∃ p,v=.ref p∧H p=some (.tup (ns.map V.int))
 | .shelf _ ss _,v=>∃ p,v=.ref p∧H p=some (.tup (ss.map V.str))
 | .hire _ st _,v=>v=.int st
 | .ways _ _ _ h _,v=>v=.int h
 | .store _ row _,v=>∃ (p:Addr) (ss:List Str),v=.ref p∧H p=some (.tup (ss.map V.str))∧ss.Perm row∧sortedS ss=true
 | .bags _ ps _,v=>∃ (p:Addr) (ss:List Int),v=.ref p∧H p=some (.tup (ss.map V.int))∧ss.Perm ps∧ss.Pairwise (·≤·)
def RS.okW:RS→W83→Prop
 | .line _ _ _,w=>∃ z,w=.i z∧-1000000000000000000≤z∧z≤1000000000000000000
 | .shelf ts _ _,w=>∃ x,w=.s x∧x∈ts
 | .hire _ _ _,w=>∃ z,w=.i z∧0≤z∧z≤1000000000000000000
 | .ways n _ _ _ _,w=>∃ cs,w=.l cs∧cs.length=n∧∀ c∈cs,0≤c∧c≤1000000000000000000
 | .store _ _ _,w=>∃ x,w=.s x∧nmS x=true
 | .bags R _ _,w=>∃ z,w=.i z∧1≤z∧z≤R
inductive G83
 | line (ns:List Int) | shelf (ss:List Str) | hire (W:Int) | ways (n:Nat) (t h:Int) | store (ss:List Str) | bags (R:Int)
def G83.word:G83→Str
 | .line _=>Str.ofString "line" | .shelf _=>Str.ofString "shelf" | .hire _=>Str.ofString "hire" | .ways _ _ _=>Str.ofString "ways" | .store _=>Str.ofString "store" | .bags _=>Str.ofString "bags"
def G83.tup:G83→List V
 | .line ns=>ns.map V.int | .shelf ss=>ss.map V.str | .hire W=>[.int W] | .ways n t h=>[.int (n:Nat),.int t,.int h] | .store ss=>ss.map V.str | .bags R=>[.int R]
def G83.rs:G83→RS
 | .line ns=>.line ns.length ns 0 | .shelf ss=>.shelf ss ss 0 | .hire W=>.hire W 0 0 | .ways n t h=>.ways n t (Nw.fstW n t h) h 0 | .store ss=>.store ss.length ss 0 | .bags R=>.bags R [] 0
def G83.ok:G83→Prop
 | .line ns=>Nl.Good ns | .shelf ss=>Names ss | .hire W=>1≤W∧W≤1000000000000000000
 | .ways n t h=>1≤n∧n≤8∧0≤h∧h < n∧0≤t∧t≤1000000000000000000 | .store ss=>Names ss | .bags R=>1≤R∧R≤1000000000000000000
def GAt (H:Hp) (g:G83) (wd:Str) (p:Addr):Prop:=wd=g.word∧H p=some (.tup g.tup)∧g.ok
theorem GAt.ext {H H':Hp} (e:Ext H H') {g:G83}{wd:Str}{p:Addr} (h:GAt H g wd p):GAt H' g wd p:=⟨h.1,e _ _ h.2.1,h.2.2⟩
theorem r_slQ {K:PySem.W.Frag}{H:Hp}{Q:VK}{p:Addr}{xs:List V}{lo hi:Option Int} (h:SqL K H p xs) (q:∀ l H',H l=none→H' l=some (.lst (cutV xs lo hi))→Ext H H'→Q (.ref l) H'):rSlU K (.ref p) lo hi H Q:=.inr ⟨p,xs,rfl,h,fun l nl=>q l _ nl j0a (j1e nl)⟩
def W83.d:W83→D
 | .i z=>.int z
 | .s x=>.str x
 | .l cs=>.tup (cs.map D.int)
def AllW (H:Hp):List W83→List V→Prop
 | [],[]=>True
 | w :: ws,v :: vs=>w.at_ H v∧AllW H ws vs
 | _,_=>False
theorem AllW.mono {H H':Hp} (e:∀ p cs,H p=some (.tup cs)→H' p=some (.tup cs)):∀ {ws:List W83}{vs:List V},AllW H ws vs→AllW H' ws vs
 | [],[],_=>trivial
 | _ :: _,_ :: _,⟨h1,h⟩=>⟨W83.mono e h1,AllW.mono e h⟩
 | [],_ :: _,h=>h.elim
 | _ :: _,[],h=>h.elim
theorem AllW.len {H:Hp}:∀ {ws:List W83}{vs:List V},AllW H ws vs→vs.length=ws.length
 | [],[],_=>rfl
 | _ :: _,_ :: _,⟨_,h⟩=>by simp[AllW.len h]
 | [],_ :: _,h=>h.elim
 | _ :: _,[],h=>h.elim
theorem AllW.get {H:Hp}:∀ {ws:List W83}{vs:List V}{i:Nat}{w:W83},AllW H ws vs→ws[i]?=some w→∃ v,vs[i]?=some v∧w.at_ H v
 | _ :: _,v :: _,0,w,⟨h1,_⟩,e=>by simp at e;subst e;exact⟨v,rfl,h1⟩
 | _ :: _,_ :: _,i+1,w,⟨_,h⟩,e=>by obtain⟨v,h1,h2⟩:=AllW.get h (by simpa using e);exact⟨v,by simpa using h1,h2⟩
 | [],_,_,_,_,e=>by simp at e
 | _ :: _,[],_,_,h,_=>h.elim
theorem AllW.snoc {H:Hp}{w:W83}{v:V} (k:w.at_ H v):∀ {ws:List W83}{vs:List V},AllW H ws vs→AllW H (ws++[w]) (vs++[v])
 | [],[],_=>⟨k,trivial⟩
 | _ :: _,_ :: _,⟨h1,h⟩=>⟨h1,AllW.snoc k h⟩
 | [],_ :: _,h=>h.elim
 | _ :: _,[],h=>h.elim
theorem AllW.rep {H:Hp}:∀ {ws:List W83}{vs:List V},AllW H ws vs→RepL H (ws.map W83.d) vs
 | [],[],_=>RepL.nil
 | w :: _,_ :: _,⟨h1,h⟩=>by
  refine RepL.cons ?_ (AllW.rep h)
  cases w with
  | i z=>exact h1
  | s x=>exact h1
  | l cs=>obtain⟨q,rfl,hq⟩:=h1;exact Rep.tupInts hq
 | [],_ :: _,h=>h.elim
 | _ :: _,[],h=>h.elim
theorem okW_d {g:G83}{w:W83} (h:g.ok) (hw:g.rs.okW w):w.d.eqOk=true:=by
 cases g with
 | line ns=>obtain⟨x,rfl,_⟩:=hw;rfl
 | shelf ss=>obtain⟨x,rfl,hx⟩:=hw;exact jeu (h.nm x hx)
 | hire W=>obtain⟨x,rfl,_⟩:=hw;rfl
 | ways n t h'=>obtain⟨cs,rfl,_⟩:=hw;exact j4t cs
 | store ss=>obtain⟨x,rfl,hx⟩:=hw;exact jeu hx
 | bags R=>obtain⟨x,rfl,_⟩:=hw;rfl
theorem jce {g:G83} (h:g.ok):∀ {ws:List W83},(∀ w∈ws,g.rs.okW w)→D.eqOkL (ws.map W83.d)=true∧D.depthL (ws.map W83.d)≤1
 | [],_=>⟨rfl,by decide⟩
 | w :: ws,hw=>by
  obtain⟨i1,i2⟩:=jce h (ws:=ws) fun x hx=>hw x (List.mem_cons_of_mem _ hx)
  refine⟨?_,?_⟩
  ·show (w.d.eqOk && D.eqOkL (ws.map W83.d))=true
   rw[okW_d h (hw w List.mem_cons_self),i1]
   rfl
  ·show max w.d.depth (D.depthL (ws.map W83.d))≤1
   have:w.d.depth≤1:=by
    cases w with
    | i z=>show 0≤1;decide
    | s x=>show 0≤1;decide
    | l cs=>show D.depthL (cs.map D.int)+1≤1;rw[j4g];decide
   omega
theorem jev (ws:List W83):eqD (.lst (ws.map W83.d)) (.lst [])=decide (ws=[]):=by
 cases ws with
 | nil=>simp[eqD,D.py,D.pyL,PyData.eqv,PyData.eqvAll]
 | cons t r=>simp[eqD,D.py,D.pyL,PyData.eqv,PyData.eqvAll]
theorem jad {c:Nat}:∀ {y z A B:List Nat},c∉y→c∉z→y++c :: A=z++c :: B→y=z∧A=B
 | [],[],A,B,_,_,e=>by simp at e;exact⟨rfl,e⟩
 | [],b :: z,A,B,_,hz,e=>by simp at e;exact absurd e.1 (fun q=>hz (by rw[q];exact List.mem_cons_self))
 | a :: y,[],A,B,hy,_,e=>by simp at e;exact absurd e.1.symm (fun q=>hy (by rw[q];exact List.mem_cons_self))
 | a :: y,b :: z,A,B,hy,hz,e=>by
  simp at e
  obtain⟨h1,h2⟩:=jad (fun q=>hy (List.mem_cons_of_mem _ q)) (fun q=>hz (List.mem_cons_of_mem _ q)) e.2
  exact⟨by rw[e.1,h1],h2⟩
theorem strE {a b:Str} (h:a.cps.toList=b.cps.toList):a=b:=by
 obtain⟨a⟩:=a
 obtain⟨b⟩:=b
 exact congrArg Str.mk (Array.toList_inj.mp h)
theorem appE (a b:Str):(a++b).cps.toList=a.cps.toList++b.cps.toList:=Array.toList_append
theorem jew (c:Nat) (x y:Str) (r:List Str):(Str.join ⟨#[c]⟩ (x :: y :: r)).cps.toList=x.cps.toList++c :: (Str.join ⟨#[c]⟩ (y :: r)).cps.toList:=by
 show ((x++(⟨#[c]⟩:Str))++Str.join ⟨#[c]⟩ (y :: r)).cps.toList=_
 rw[appE,appE,List.append_assoc]
 rfl
theorem j7x {c:Nat}:∀ {ys zs:List Str},ys≠[]→zs≠[]→(∀ z∈ys,c∉z.cps.toList)→(∀ z∈zs,c∉z.cps.toList)→Str.join ⟨#[c]⟩ ys=Str.join ⟨#[c]⟩ zs→ys=zs
 | [],_,h,_,_,_,_=>absurd rfl h
 | _,[],_,h,_,_,_=>absurd rfl h
 | [y],[z],_,_,_,_,e=>by rw[show y=z from e]
 | [y],z :: z2 :: r,_,_,hy,_,e=>by
  have e1:=congrArg (fun s:Str=>s.cps.toList) e
  simp only[jew] at e1
  have e2:y.cps.toList=z.cps.toList++c :: (Str.join ⟨#[c]⟩ (z2 :: r)).cps.toList:=e1
  exact absurd (by rw[e2];simp) (hy y List.mem_cons_self)
 | y :: y2 :: r,[z],_,_,_,hz,e=>by
  have e1:=congrArg (fun s:Str=>s.cps.toList) e
  simp only[jew] at e1
  have e2:y.cps.toList++c :: (Str.join ⟨#[c]⟩ (y2 :: r)).cps.toList=z.cps.toList:=e1
  exact absurd (by rw[← e2];simp) (hz z List.mem_cons_self)
 | y :: y2 :: r,z :: z2 :: q,_,_,hy,hz,e=>by
  have e1:=congrArg (fun s:Str=>s.cps.toList) e
  simp only[jew] at e1
  obtain⟨h1,h2⟩:=jad (hy y List.mem_cons_self) (hz z List.mem_cons_self) e1
  rw[strE h1,j7x (ys:=y2 :: r) (zs:=z2 :: q) (List.cons_ne_nil _ _) (List.cons_ne_nil _ _) (fun x hx=>hy x (List.mem_cons_of_mem _ hx)) (fun x hx=>hz x (List.mem_cons_of_mem _ hx)) (strE h2)]
theorem j3j {c:Nat}{zs:List Str} (hn:zs≠[]) (hf:∀ z∈zs,c∉z.cps.toList):Txt.split (Str.join ⟨#[c]⟩ zs) ⟨#[c]⟩=zs:=by
 refine j7x (c:=c) (fun e=>?_) hn (StrLaws.split_free _ c) hf (StrLaws.join_split _ _)
 have:=split_pos (Str.join ⟨#[c]⟩ zs) ⟨#[c]⟩
 rw[e] at this
 exact absurd this (by decide)
theorem j2w (c:Nat) {k:Nat}:∀ {zs:List Str},(∀ z∈zs,z.length≤k)→(Str.join ⟨#[c]⟩ zs).length≤(k+1) * zs.length
 | [],_=>Nat.zero_le _
 | [z],h=>by have:=h z List.mem_cons_self;show z.length≤(k+1) * 1;omega
 | z :: y :: r,h=>by
  have h1:=h z List.mem_cons_self
  have h2:=j2w c (zs:=y :: r) fun x hx=>h x (List.mem_cons_of_mem _ hx)
  have e:=congrArg List.length (jew c z y r)
  rw[List.length_append,List.length_cons] at e
  have e':(Str.join ⟨#[c]⟩ (z :: y :: r)).length=z.length+((Str.join ⟨#[c]⟩ (y :: r)).length+1):=e
  rw[e',show (z :: y :: r).length=(y :: r).length+1 from rfl,Nat.mul_add]
  omega
theorem jae (c:Nat) {k n:Nat}{zs:List Str} (h:∀ z∈zs,z.length≤k) (hl:zs.length≤n) (hb:(k+1) * n≤1000000):JoinOk ⟨#[c]⟩ zs=true:=by
 have go:∀ (l:List Str) (acc:Nat),(∀ z∈l,z.length≤k)→l.foldl (fun a z=>a+z.length+(⟨#[c]⟩:Str).length) acc≤acc+(k+1) * l.length:=by
  intro l
  induction l with
  | nil=>intro acc _;exact Nat.le_add_right _ _
  | cons z r ih =>
   intro acc hz
   have h1:=hz z List.mem_cons_self
   have:=ih (acc+z.length+(⟨#[c]⟩:Str).length) fun x hx=>hz x (List.mem_cons_of_mem _ hx)
   have e1:(⟨#[c]⟩:Str).length=1:=rfl
   rw[List.foldl_cons,List.length_cons,Nat.mul_add]
   omega
 unfold JoinOk Builtin.Str.tooLong
 have g:=go zs 0 h
 have e:zs.toArray.foldl (fun a z=>a+z.length+(⟨#[c]⟩:Str).length) 0=zs.foldl (fun a z=>a+z.length+(⟨#[c]⟩:Str).length) 0:=by simp
 have m:(k+1) * zs.length≤(k+1) * n:=Nat.mul_le_mul_left _ hl
 rw[e,sizeLine_eq]
 skip;simp only[Bool.not_eq_true',decide_eq_false_iff_not]
 omega
open PySem.NumText in
abbrev dVal:List Nat→Nat:=digitsVal
def dig (c:Nat):Bool:=decide (48≤c) && decide (c≤57)
def figB (z:Str):Bool:=(decide (1≤z.length) && decide (z.length≤19)) && z.cps.toList.all dig && (decide (z=⟨#[48]⟩) || !decide (z.cps.toList.head?=some 48))
def tlS (z:Str):Str:=⟨z.cps.toList.tail.toArray⟩
def negB (z:Str):Bool:=decide (z.cps.toList.head?=some 45) && figB (tlS z) && !decide (z=⟨#[45,48]⟩)
def wrV (z:Str):V:=if figB z then .int (dVal z.cps.toList:Nat) else if negB z then .int (-(dVal (tlS z).cps.toList:Nat)) else .str z
theorem jdf {z:Str} (h:figB z=true):PySem.intText? z=some ((dVal z.cps.toList:Nat):Int)∧z.length≤19:=by
 unfold figB at h
 simp only[Bool.and_eq_true,decide_eq_true_eq] at h
 obtain⟨⟨⟨h1,h2⟩,h3⟩,_⟩:=h
 refine⟨PySem.intText_digits (fun c hc=>?_) (fun e=>?_) (by omega),h2⟩
 ·have:=List.all_eq_true.mp h3 c hc
  unfold dig at this
  simpa using this
 ·have:z.cps.toList.length=z.length:=Array.length_toList
  rw[e] at this
  simp at this
  omega
theorem jdg:∀ (k m:Nat),m < 10 ^ (k+1)→(Nat.toDigits 10 m).length≤k+1
 | 0,m,h=>by rw[Nat.toDigits_of_lt_base (by omega)];exact Nat.le_refl _
 | k+1,m,h=>by
  by_cases c:m < 10
  ·rw[Nat.toDigits_of_lt_base c];simp
  ·skip;have hm:m % 10 < 10:=Nat.mod_lt m (by decide)
   skip;have t:Nat.toDigits 10 (m / 10)++Nat.toDigits 10 (m % 10)=Nat.toDigits 10 (10 * (m / 10)+m % 10):=Nat.toDigits_append_toDigits (by decide) (by omega) hm
   rw[Nat.div_add_mod] at t
   rw[← t,List.length_append,Nat.toDigits_of_lt_base hm]
   have:=jdg k (m / 10) (by rw[Nat.pow_succ] at h;omega)
   skip;simp only[List.length_cons,List.length_nil]
   omega
theorem jex (mv:Nat) (h:1≤mv):∃ d r,Nat.toDigits 10 mv=Nat.digitChar d :: r∧1≤d∧d < 10:=by
 induction mv using Nat.strongRecOn with
 | _ m ih =>
  by_cases c:m < 10
  ·exact⟨m,[],Nat.toDigits_of_lt_base c,h,c⟩
  ·skip;have hm:m % 10 < 10:=Nat.mod_lt m (by decide)
   skip;have t:Nat.toDigits 10 (m / 10)++Nat.toDigits 10 (m % 10)=Nat.toDigits 10 (10 * (m / 10)+m % 10):=Nat.toDigits_append_toDigits (by decide) (by omega) hm
   rw[Nat.div_add_mod] at t
   obtain⟨d,r,e,h1,h2⟩:=ih (m / 10) (by omega) (by omega)
   rw[e] at t
   exact⟨d,r++Nat.toDigits 10 (m % 10),t.symm,h1,h2⟩
theorem j7y (m:Nat):(txI (m:Nat)).cps.toList=(Nat.toDigits 10 m).map Char.toNat:=PySem.W.KIN.signs_num m
theorem jaf (m:Nat):∀ c∈(txI (m:Nat)).cps.toList,48≤c∧c≤57:=by
 intro c hc
 rw[j7y] at hc
 skip;obtain⟨ch,hch,e⟩:=List.mem_map.mp hc
 skip;have r:=digit_range (Nat.isDigit_of_mem_toDigits (by decide) (by decide) hch)
 rw[← e]
 exact r
theorem j6p {m:Nat} (h:m≤1000000000000000001):figB (txI (m:Nat))=true∧dVal (txI (m:Nat)).cps.toList=m:=by
 have hv:dVal (txI (m:Nat)).cps.toList=m:=by rw[j7y];exact PySem.W.KIN.val_back m
 refine⟨?_,hv⟩
 have hl:(txI (m:Nat)).length=(Nat.toDigits 10 m).length:=by
  have:=congrArg List.length (j7y m)
  rw[List.length_map] at this
  exact this
 have l2:=jdg 18 m (by
   have:(10:Nat) ^ (18+1)=10000000000000000000:=by decide
   omega)
 unfold figB
 rcases Nat.eq_zero_or_pos m with rfl | hp
 ·decide +kernel
 ·obtain⟨d,r,e,h1,h2⟩:=jex m hp
  have hh:(txI (m:Nat)).cps.toList.head?=some (Nat.digitChar d).toNat:=by rw[j7y,e];rfl
  have hd:∀ d:Fin 10,1≤d.val→(Nat.digitChar d.val).toNat≠48:=by decide
  have hne:=hd ⟨d,h2⟩ h1
  have hall:(txI (m:Nat)).cps.toList.all dig=true:=List.all_eq_true.mpr fun c hc=>by
   have:=jaf m c hc
   unfold dig
   simp[this.1,this.2]
  rw[hl,hall,hh,e,List.length_cons]
  rw[e,List.length_cons] at l2
  simp only[Option.some.injEq,decide_eq_false hne,Bool.not_false,Bool.or_true,Bool.and_true]
  skip;simp only[Bool.and_eq_true,decide_eq_true_eq]
  omega
theorem jdh (m:Nat) (h:1≤m):(txI (-(m:Nat):Int)).cps.toList=45 :: (txI (m:Nat)).cps.toList:=by
 obtain⟨k,rfl⟩:∃ k,m=k+1:=⟨m-1,by omega⟩
 unfold txI
 rw[signs_ofString,signs_ofString]
 have e:toString (-((k+1:Nat):Int))="-"++toString ((k+1:Nat):Int):=rfl
 rw[e,String.toList_append]
 rfl
theorem jcf {z:Str}{c:Nat} (hc:c∈z.cps.toList) (hd:dig c=false):figB z=false:=by
 unfold figB
 have:z.cps.toList.all dig=false:=by
  rw[List.all_eq_false]
  exact⟨c,hc,by rw[hd];decide⟩
 rw[this]
 simp
theorem j4i {n:Int} (h0:-1000000000000000001≤n) (h1:n≤1000000000000000001):wrV (txI n)=.int n:=by
 unfold wrV
 by_cases c:0≤n
 ·obtain⟨m,rfl⟩:=Int.eq_ofNat_of_zero_le c
  obtain⟨e1,e2⟩:=j6p (m:=m) (by omega)
  rw[if_pos e1,e2]
 ·obtain⟨m,rfl,hm⟩:∃ m:Nat,n=-(m:Int)∧1≤m:=⟨n.natAbs,by omega,by omega⟩
  obtain⟨e1,e2⟩:=j6p (m:=m) (by omega)
  have ec:=jdh m hm
  have et:tlS (txI (-(m:Int)))=txI (m:Nat):=strE (by unfold tlS;rw[ec];rfl)
  have hz:txI (-(m:Int))≠⟨#[45,48]⟩:=fun q=>by
   have q2:(45:Nat) :: (txI (m:Nat)).cps.toList=[45,48]:=by rw[← ec,q]
   injection q2 with _ q2
   rw[q2] at e2
   have:dVal [48]=0:=rfl
   omega
  rw[if_neg (by rw[jcf (c:=45) (by rw[ec];exact List.mem_cons_self) rfl];decide),if_pos,et,e2]
  unfold negB
  rw[et,e1,ec,decide_eq_false hz]
  rfl
theorem jht {n:Int} (h0:-1000000000000000000≤n) (h1:n≤1000000000000000000):wrV (txI n)=.int n:=j4i (by omega) (by omega)
def okSg (c:Nat):Prop:=(48≤c∧c≤57)∨c=45∨(97≤c∧c≤122)
theorem jhu {n:Int} (h0:-1000000000000000001≤n) (h1:n≤1000000000000000001):(∀ c∈(txI n).cps.toList,okSg c)∧1≤(txI n).length∧(txI n).length≤20:=by
 have nat:∀ m:Nat,m≤1000000000000000001→1≤(txI (m:Nat)).length∧(txI (m:Nat)).length≤19:=fun m hm=>by
  have:=(j6p hm).1
  unfold figB at this
  simp only[Bool.and_eq_true,decide_eq_true_eq] at this
  exact this.1.1
 by_cases c:0≤n
 ·obtain⟨m,rfl⟩:=Int.eq_ofNat_of_zero_le c
  have:=nat m (by omega)
  exact⟨fun c hc=>.inl (jaf m c hc),this.1,by omega⟩
 ·obtain⟨m,rfl,hm⟩:∃ m:Nat,n=-(m:Int)∧1≤m:=⟨n.natAbs,by omega,by omega⟩
  have ec:=jdh m hm
  have:=nat m (by omega)
  have hl:(txI (-(m:Int))).length=(txI (m:Nat)).length+1:=by
   have:=congrArg List.length ec
   exact this
  refine⟨fun c hc=>?_,by omega,by omega⟩
  rw[ec] at hc
  skip;rcases List.mem_cons.mp hc with rfl | hc
  ·exact .inr (.inl rfl)
  ·exact .inl (jaf m c hc)
theorem txI_sg {n:Int} (h0:-1000000000000000000≤n) (h1:n≤1000000000000000000):(∀ c∈(txI n).cps.toList,okSg c)∧1≤(txI n).length∧(txI n).length≤20:=jhu (by omega) (by omega)
theorem jag {z:Str} (h1:1≤z.length) (h:∀ c∈z.cps.toList,97≤c∧c≤122):wrV z=.str z:=by
 obtain⟨c,r,e⟩:∃ c r,z.cps.toList=c :: r:=by
  cases q:z.cps.toList with
  | nil =>
   have:z.cps.toList.length=z.length:=Array.length_toList
   rw[q] at this
   simp at this
   omega
  | cons c r=>exact⟨c,r,rfl⟩
 have hc:=h c (by rw[e];exact List.mem_cons_self)
 unfold wrV
 rw[if_neg,if_neg]
 ·unfold negB
  rw[e]
  have:¬ (c :: r).head?=some 45:=by simp only[List.head?_cons,Option.some.injEq];omega
  rw[decide_eq_false this]
  simp
 ·rw[jcf (c:=c) (by rw[e];exact List.mem_cons_self) (by unfold dig;simp;omega)]
  decide
def ClV:V→Prop
 | .int n=>-1000000000000000000≤n∧n≤1000000000000000000
 | .str z=>nmS z=true
 | _=>False
def txV:V→Str
 | .int n=>txI n
 | .str z=>z
 | _=>⟨#[]⟩
theorem jey {z:Str} (h:nmS z=true):∀ c∈z.cps.toList,97≤c∧c≤122:=fun c hc=>by
 unfold nmS at h
 rw[Bool.and_eq_true] at h
 have:=List.all_eq_true.mp h.2 c hc
 unfold nmL at this
 rw[Bool.and_eq_true,decide_eq_true_iff,decide_eq_true_iff] at this
 exact this
theorem ClV.wr {v:V} (h:ClV v):wrV (txV v)=v:=by
 cases v with
 | int n=>exact jht h.1 h.2
 | str z=>exact jag (j22 h).1 (jey h)
 | _=>exact h.elim
theorem ClV.sg {v:V} (h:ClV v):(∀ c∈(txV v).cps.toList,okSg c)∧1≤(txV v).length∧(txV v).length≤20:=by
 cases v with
 | int n=>exact txI_sg h.1 h.2
 | str z=>have:=j22 h;exact⟨fun c hc=>.inr (.inr (jey h c hc)),this.1,by show z.length≤20;omega⟩
 | _=>exact h.elim
def W83.ps:W83→List V
 | .i z=>[.int z]
 | .s x=>[.str x]
 | .l cs=>cs.map V.int
theorem G83.cl {g:G83} (h:g.ok):(∀ v∈g.tup,ClV v)∧1≤g.tup.length∧g.tup.length≤8:=by
 cases g with
 | line ns =>
  obtain⟨l1,l6,_,hb⟩:=h
  refine⟨fun v hv=>?_,by show 1≤(ns.map V.int).length;rw[List.length_map];omega,by show (ns.map V.int).length≤8;rw[List.length_map];omega⟩
  obtain⟨n,hn,rfl⟩:=List.mem_map.mp hv
  exact hb n hn
 | shelf ss =>
  refine⟨fun v hv=>?_,by show 1≤(ss.map V.str).length;rw[List.length_map];exact h.lo,by show (ss.map V.str).length≤8;rw[List.length_map];exact h.hi⟩
  obtain⟨n,hn,rfl⟩:=List.mem_map.mp hv
  exact h.nm n hn
 | hire W=>exact⟨fun v hv=>by rw[List.mem_singleton.mp hv];exact⟨by have:=h.1;omega,h.2⟩,Nat.le_refl 1,(by decide:1≤8)⟩
 | ways n t h' =>
  obtain⟨n1,n8,h0,h1,t0,t1⟩:=h
  refine⟨fun v hv=>?_,by show 1≤3;decide,by show 3≤8;decide⟩
  rcases List.mem_cons.mp hv with rfl | hv
  ·exact⟨by omega,by omega⟩
  rcases List.mem_cons.mp hv with rfl | hv
  ·exact⟨by omega,by omega⟩
  rw[List.mem_singleton.mp hv]
  exact⟨by omega,by omega⟩
 | store ss =>
  refine⟨fun v hv=>?_,by show 1≤(ss.map V.str).length;rw[List.length_map];exact h.lo,by show (ss.map V.str).length≤8;rw[List.length_map];exact h.hi⟩
  obtain⟨n,hn,rfl⟩:=List.mem_map.mp hv
  exact h.nm n hn
 | bags R=>exact⟨fun v hv=>by rw[List.mem_singleton.mp hv];exact⟨by have:=h.1;omega,h.2⟩,Nat.le_refl 1,(by decide:1≤8)⟩
theorem j2b {g:G83}{w:W83} (h:g.ok) (hw:g.rs.okW w):(∀ v∈w.ps,ClV v)∧1≤w.ps.length∧w.ps.length≤8:=by
 have one:∀ {v:V},ClV v→(∀ u∈[v],ClV u)∧1≤[v].length∧[v].length≤8:=fun k=>⟨fun u hu=>by rw[List.mem_singleton.mp hu];exact k,by simp,by simp⟩
 cases g with
 | line ns=>obtain⟨x,rfl,h0,h1⟩:=hw;exact one ⟨h0,h1⟩
 | shelf ss=>obtain⟨x,rfl,hx⟩:=hw;exact one (h.nm x hx)
 | hire W=>obtain⟨x,rfl,h0,h1⟩:=hw;exact one ⟨by omega,h1⟩
 | ways n t h' =>
  obtain⟨cs,rfl,hl,hc⟩:=hw
  obtain⟨n1,n8,_⟩:=h
  refine⟨fun v hv=>?_,by show 1≤(cs.map V.int).length;rw[List.length_map];omega,by show (cs.map V.int).length≤8;rw[List.length_map];omega⟩
  obtain⟨c,hc',rfl⟩:=List.mem_map.mp hv
  exact⟨by have:=(hc c hc').1;omega,(hc c hc').2⟩
 | store ss=>obtain⟨x,rfl,hx⟩:=hw;exact one hx
 | bags R=>obtain⟨x,rfl,h0,h1⟩:=hw;exact one ⟨by omega,by have:=h.2;omega⟩
theorem j4w (c0:Nat):∀ {zs:List Str}{c:Nat},c∈(Str.join ⟨#[c0]⟩ zs).cps.toList→c=c0∨∃ z∈zs,c∈z.cps.toList
 | [],c,h=>by cases h
 | [z],c,h=>.inr ⟨z,List.mem_cons_self,h⟩
 | z :: y :: r,c,h=>by
  rw[jew] at h
  rcases List.mem_append.mp h with h | h
  ·exact .inr ⟨z,List.mem_cons_self,h⟩
  rcases List.mem_cons.mp h with h | h
  ·exact .inl h
  rcases j4w c0 h with h | ⟨x,hx,h⟩
  ·exact .inl h
  ·exact .inr ⟨x,List.mem_cons_of_mem _ hx,h⟩
theorem jah (c0:Nat):∀ {zs:List Str}{z:Str}{c:Nat},z∈zs→c∈z.cps.toList→c∈(Str.join ⟨#[c0]⟩ zs).cps.toList
 | [],_,_,h,_=>by cases h
 | [y],z,c,h,hc=>by rw[List.mem_singleton.mp h] at hc;exact hc
 | x :: y :: r,z,c,h,hc=>by
  rw[jew]
  rcases List.mem_cons.mp h with rfl | h
  ·exact List.mem_append_left _ hc
  ·exact List.mem_append_right _ (List.mem_cons_of_mem _ (jah c0 h hc))
theorem jai (c0:Nat) (z:Str) (r:List Str):z.length≤(Str.join ⟨#[c0]⟩ (z :: r)).length:=by
 cases r with
 | nil=>exact Nat.le_refl _
 | cons y r =>
  have e:=congrArg List.length (jew c0 z y r)
  rw[List.length_append,List.length_cons] at e
  have e':(Str.join ⟨#[c0]⟩ (z :: y :: r)).length=z.length+((Str.join ⟨#[c0]⟩ (y :: r)).length+1):=e
  omega
def LnOk (z:Str):Prop:=(∀ c∈z.cps.toList,okSg c∨c=32)∧1≤z.length∧z.length≤200
theorem ln_ok {k:Str}{vs:List V} (hk:nmS k=true) (hv:∀ v∈vs,ClV v) (hl:vs.length≤8):Txt.split (Str.join ⟨#[32]⟩ (k :: vs.map txV)) ⟨#[32]⟩=k :: vs.map txV∧LnOk (Str.join ⟨#[32]⟩ (k :: vs.map txV)):=by
 have all:∀ z∈k :: vs.map txV,(∀ c∈z.cps.toList,okSg c)∧1≤z.length∧z.length≤20:=fun z hz=>by
  rcases List.mem_cons.mp hz with rfl | hz
  ·have:=j22 hk;exact⟨fun c hc=>.inr (.inr (jey hk c hc)),this.1,by omega⟩
  ·obtain⟨v,h1,rfl⟩:=List.mem_map.mp hz
   exact (hv v h1).sg
 refine⟨j3j (List.cons_ne_nil _ _) fun z hz hc=>?_,fun c hc=>?_,?_,?_⟩
 ·rcases (all z hz).1 32 hc with h | h | h <;> omega
 ·rcases j4w 32 hc with h | ⟨z,hz,h⟩
  ·exact .inr h
  ·exact .inl ((all z hz).1 c h)
 ·have:=jai 32 k (vs.map txV)
  have:=(j22 hk).1
  omega
 ·have:=j2w 32 (k:=20) (zs:=k :: vs.map txV) fun z hz=>(all z hz).2.2
  rw[List.length_cons,List.length_map] at this
  omega
theorem ClV.wrs:∀ {vs:List V},(∀ v∈vs,ClV v)→(vs.map txV).map wrV=vs
 | [],_=>rfl
 | v :: r,h=>by rw[List.map_cons,List.map_cons,(h v List.mem_cons_self).wr,ClV.wrs fun u hu=>h u (List.mem_cons_of_mem _ hu)]
def askS:Str:=Str.ofString "ask"
theorem jhv:nmS askS=true:=by decide
theorem G83.nmw (g:G83):nmS g.word=true:=by
 cases g with
 | line ns=>exact (by decide:nmS (Str.ofString "line")=true)
 | shelf ss=>exact (by decide:nmS (Str.ofString "shelf")=true)
 | hire W=>exact (by decide:nmS (Str.ofString "hire")=true)
 | ways n t h=>exact (by decide:nmS (Str.ofString "ways")=true)
 | store ss=>exact (by decide:nmS (Str.ofString "store")=true)
 | bags R=>exact (by decide:nmS (Str.ofString "bags")=true)
def lnG (g:G83):Str:=Str.join ⟨#[32]⟩ (g.word :: g.tup.map txV)
def lnW (w:W83):Str:=Str.join ⟨#[32]⟩ (askS :: w.ps.map txV)
theorem jez {g:G83} (h:g.ok):Txt.split (lnG g) ⟨#[32]⟩=g.word :: g.tup.map txV∧LnOk (lnG g):=ln_ok g.nmw (G83.cl h).1 (G83.cl h).2.2
theorem j8m {g:G83}{w:W83} (h:g.ok) (hw:g.rs.okW w):Txt.split (lnW w) ⟨#[32]⟩=askS :: w.ps.map txV∧LnOk (lnW w):=ln_ok jhv (j2b h hw).1 (j2b h hw).2.2
theorem jaj {z:Str} (h:∀ c∈z.cps.toList,c < 128):AscS z:=by
 unfold AscS
 rw[Array.all_eq_true_iff_forall_mem]
 exact fun c hc=>decide_eq_true (h c (by simpa using hc))
theorem jhw {z:Str} (h:AscS z):∀ c∈z.cps.toList,c < 128:=fun c hc=>by
 unfold AscS at h
 rw[Array.all_eq_true_iff_forall_mem] at h
 simpa using h c (by simpa using hc)
theorem LnOk.asc {z:Str} (h:LnOk z):AscS z:=jaj fun c hc=>by rcases h.1 c hc with (h | h | h) | h <;> omega
theorem j4x {z:Str}{c0:Nat} (h:AscS z) (hl:z.length≤1000000):∀ x∈Txt.split z ⟨#[c0]⟩,AscS x∧x.length≤1000000:=fun x hx=>by
 refine⟨jaj fun c hc=>jhw h c ?_,Nat.le_trans (part_short hx) hl⟩
 have:=jah c0 hx hc
 rwa [StrLaws.join_split] at this
theorem jak (xs:List V) (h:1≤xs.length):cutV xs (some 1) none=xs.drop 1:=by
 unfold cutV
 rw[show (some (1:Int))=some ((1:Nat):Int) from rfl,HT.sIx_nat,HT.sIx_none,Nat.min_eq_left h]
 exact List.take_of_length_le (by rw[List.length_drop];exact Nat.le_refl _)
def j1d:List Str→Nat→List (Nat × Str)
 | [],_=>[]
 | z :: r,i=>if z=⟨#[]⟩ then j1d r (i+1) else (i,z) :: j1d r (i+1)
theorem jal:∀ (zs:List Str) (i:Nat),(j1d zs i).map (·.2)=zs.filter fun z=>!decide (z=⟨#[]⟩)
 | [],_=>rfl
 | z :: r,i=>by
  unfold j1d
  by_cases h:z=⟨#[]⟩
  ·rw[if_pos h,jal r,List.filter_cons_of_neg (by simp[h])]
  ·rw[if_neg h,List.map_cons,jal r,List.filter_cons_of_pos (by simp[h])]
def RwAt (H:Hp):List (Nat × Str)→List V→Prop
 | [],[]=>True
 | p :: ps,v :: vs=>(∃ a,v=.ref a∧H a=some (.tup [.int (p.1:Nat),.str p.2]))∧RwAt H ps vs
 | _,_=>False
theorem RwAt.kp {H H':Hp} (e:Kp H H'):∀ {ps:List (Nat × Str)}{vs:List V},RwAt H ps vs→RwAt H' ps vs
 | [],[],_=>trivial
 | _ :: _,_ :: _,⟨⟨a,h1,h2⟩,h⟩=>⟨⟨a,h1,e _ _ h2 rfl⟩,RwAt.kp e h⟩
 | [],_ :: _,h=>h.elim
 | _ :: _,[],h=>h.elim
theorem RwAt.len {H:Hp}:∀ {ps:List (Nat × Str)}{vs:List V},RwAt H ps vs→vs.length=ps.length
 | [],[],_=>rfl
 | _ :: _,_ :: _,⟨_,h⟩=>by simp[RwAt.len h]
 | [],_ :: _,h=>h.elim
 | _ :: _,[],h=>h.elim
theorem RwAt.get {H:Hp}:∀ {ps:List (Nat × Str)}{vs:List V}{i:Nat}{v:V},RwAt H ps vs→vs[i]?=some v→∃ p a,ps[i]?=some p∧v=.ref a∧H a=some (.tup [.int (p.1:Nat),.str p.2])
 | p :: _,v :: _,0,w,⟨⟨a,h1,h2⟩,_⟩,e=>by simp at e;subst e;exact⟨p,a,rfl,h1,h2⟩
 | _ :: _,_ :: _,i+1,w,⟨_,h⟩,e=>by obtain⟨p,a,h1,h2⟩:=RwAt.get h (by simpa using e);exact⟨p,a,by simpa using h1,h2⟩
 | [],[],_,_,_,e=>by simp at e
 | [],_ :: _,_,_,h,_=>h.elim
 | _ :: _,[],_,_,h,_=>h.elim
theorem RwAt.snoc {H:Hp}{p:Nat × Str}{a:Addr} (k:H a=some (.tup [.int (p.1:Nat),.str p.2])):∀ {ps:List (Nat × Str)}{vs:List V},RwAt H ps vs→RwAt H (ps++[p]) (vs++[.ref a])
 | [],[],_=>⟨⟨a,rfl,k⟩,trivial⟩
 | _ :: _,_ :: _,⟨h1,h⟩=>⟨h1,RwAt.snoc k h⟩
 | [],_ :: _,h=>h.elim
 | _ :: _,[],h=>h.elim
theorem RwAt.tail {H:Hp}{p:Nat × Str}{ps:List (Nat × Str)}{vs:List V} (h:RwAt H (p :: ps) vs):∃ a us,vs=.ref a :: us∧H a=some (.tup [.int (p.1:Nat),.str p.2])∧RwAt H ps us:=by
 cases vs with
 | nil=>exact h.elim
 | cons v us=>obtain⟨⟨a,rfl,h1⟩,h2⟩:=h;exact⟨a,us,rfl,h1,h2⟩
theorem fmr:∀ r:List Nat,(List.range r.length).filterMap (r[·]?)=r
 | []=>rfl
 | a :: r=>by
  have ih:=fmr r
  rw[List.length_cons,List.range_succ_eq_map,List.filterMap_cons]
  simp only[List.getElem?_cons_zero,List.filterMap_map]
  rw[show ((fun x=>(a :: r)[x]?) ∘ Nat.succ)=(fun x=>r[x]?) from funext fun x=>by simp,ih]
theorem jdi {z:Str} (h:1≤z.length):outS z (some 1) none=tlS z:=by
 have hi:Builtin.Str.strSliceIndices (some 1) none 1 z.length=(List.range (z.length-1)).map (1+·):=by
  have e:=sliceRange_one 1 z.length
  unfold Builtin.Str.strSliceIndices
  simp only[show ¬ ((1:Int) < 0) by decide,if_false,show ((1:Int) > 0) from by decide,if_true]
  rw[show max (0:Int) (min 1 (z.length:Int))=((1:Nat):Int) by omega]
  exact e
 obtain⟨c,r,ez⟩:∃ c r,z.cps.toList=c :: r:=by
  cases q:z.cps.toList with
  | nil =>
   have:z.cps.toList.length=z.length:=Array.length_toList
   rw[q] at this
   simp at this
   omega
  | cons c r=>exact⟨c,r,rfl⟩
 have hl:z.length=r.length+1:=by
  have:z.cps.toList.length=z.length:=Array.length_toList
  rw[ez] at this
  exact this.symm
 unfold outS
 rw[hi,if_neg (by simp;omega)]
 apply strE
 show ((List.range (z.length-1)).map (1+·)).filterMap (z.cps[·]?)=(tlS z).cps.toList
 unfold tlS
 rw[ez,hl,show r.length+1-1=r.length by omega,List.filterMap_map]
 rw[show ((fun x=>z.cps[x]?) ∘ fun x=>1+x)=(fun x=>r[x]?) from funext fun x=>by
  show z.cps[1+x]?=r[x]?
  rw[← Array.getElem?_toList,ez,Nat.add_comm]
  rfl]
 exact fmr r
theorem jam (z:Str):Txt.startswith z (Str.ofString "-")=decide (z.cps.toList.head?=some 45):=by
 obtain⟨⟨l⟩⟩:=z
 cases l with
 | nil=>decide
 | cons c r =>
  rw[show Str.ofString "-"=(⟨#[45]⟩:Str) by decide]
  show (decide (0+1≤(c :: r).length) && ((c :: r).toArray.extract 0 (0+1) == #[45]))=decide (some c=some 45)
  rw[show (c :: r).toArray.extract 0 (0+1)=#[c] by simp]
  by_cases h:c=45
  ·subst h
   simp
  ·simp[h]
theorem cps_0:(Str.ofString "0").cps.toList=[48]:=by decide
theorem cps_9:(Str.ofString "9").cps.toList=[57]:=by decide
theorem le_0 (c:Nat):(!decide (([c]:List Nat) < [48]))=decide (48≤c):=by
 rw[← decide_not]
 apply decide_eq_decide.mpr
 rw[List.cons_lt_cons_iff]
 simp
theorem le_9 (c:Nat):(!decide (([57]:List Nat) < [c]))=decide (c≤57):=by
 rw[← decide_not]
 apply decide_eq_decide.mpr
 rw[List.cons_lt_cons_iff]
 simp
def FlV:V→Prop
 | .int _=>True
 | .str z=>AscS z∧z.length≤1000
 | _=>False
theorem FlV.hk {H:Hp}{x:V} (h:FlV x):∃ k,HasK H x k:=by
 cases x with
 | int n=>exact⟨.int,rfl⟩
 | str z=>exact⟨.str,rfl⟩
 | _=>exact h.elim
theorem FlV.item {H:Hp}{x:V} (h:FlV x):ItemOk H x:=by
 cases x with
 | int n=>exact ItemOk.flat (k:=.int) rfl (fun z e=>by cases e)
 | str z=>exact ItemOk.str h.1 h.2
 | _=>exact h.elim
theorem wr_fl {z:Str} (ha:AscS z) (hl:z.length≤1000):FlV (wrV z):=by
 unfold wrV
 split
 ·trivial
 ·split
  ·trivial
  ·exact⟨ha,hl⟩
theorem j6q {t u:TS}{D:Ends}{σ:L2.St}{H:Hp} (J:L2.St→Hp→Prop) (h2:∀ σ' H',J σ' H'→u D σ' H') (h1:(∀ σ' H',J σ' H'→u D σ' H')→tSeq t u D σ H):tSeq t u D σ H:=h1 h2
def j6r:Sp:=fun vs H Q _=>∃ x k,vs=[x]∧HasK H x k∧Q (.bl (k == .int)) H
theorem j6s (T:Txt w K mg a):FnOk P w K mg base (CXU P w) 1 a.f_z52 a.d_z52 ["_law_found"] (j6r):=by
 refine T.F_z52.okU sc_z52 (fun vs H Q E h=>?_) (fun cdv A outer s H vs Q E hr h=>?_)
 ·obtain⟨x,k,rfl,hk,hq⟩:=h
  rfl
 ·obtain⟨x,k,rfl,hk,hq⟩:=h
  refine⟨_,(j03 (j0c (j1p (j08 j59 (by rfl) T.n_isinstance PyProof.Rows.boot_isinstance (j00 (pv 0) (j00 (j17 (v:=V.ty "int") (by rfl) T.n_int PyProof.Rows.boot_int rfl) j01))) (j23 (jfn (j08 j59 (by rfl) T.n_isinstance PyProof.Rows.boot_isinstance (j00 (pv 0) (j00 (j17 (v:=V.ty "bool") (by rfl) T.n_bool PyProof.Rows.boot_bool rfl) j01)))))))),?_⟩
  walk_at "v"
  refine r_isI hk ?_
  cases k <;> (walk_at "v") <;> first | exact hq | (refine r_isB hk ?_;(walk_at "v");exact hq)
def j1s (n:Nat):Sp:=fun vs H Q _=>∃ x y d,vs=[x,y]∧Rep H d x∧Rep H d y∧plD d=true∧d.depth≤n∧∀ H',Ext H H'→Q (.bl true) H'
def j1o (n:Nat):Sp:=fun vs H Q _=>∃ p q xs ys ds,vs=[.ref p,.ref q]∧H p=some (.lst xs)∧H q=some (.lst ys)∧RepL H ds xs∧RepL H ds ys∧plDL ds=true∧D.depthL ds≤n∧∀ H',Ext H H'→Q (.bl true) H'
theorem j8n {n k:Nat} (T:Txt w K mg a) (G:FnOk P w K mg base (CXU P w) k a.f_z57 a.d_z57 ["_law_found","_law_due"] (j1s n)) :
  FnOk P w K mg base (CXU P w) (k+1) a.f_z20 a.d_z20 ["_law_found","_law_due"] (j1o n):=by
 refine T.F_z20.okU jes (fun vs H Q E h=>?_) (fun cdv A outer s H vs Q E hr h=>?_)
 ·obtain⟨p,q,xs,ys,ds,rfl,_⟩:=h
  rfl
 ·obtain⟨p,q,xs,ys,ds,rfl,hp,hq',hd,he,hf,hn,hq⟩:=h
  refine⟨_,(j02 (j86 PassesOwn.never rfl (jgn rfl T.n_zip (j00 (pv 0) (j00 (pv 1) j01))) (j8w rfl (j1n (j0p (i:=2) jes.nd rfl (by first | exact Or.inl rfl | exact Or.inr rfl)) (j1n (j0p (i:=3) jes.nd rfl (by first | exact Or.inl rfl | exact Or.inr rfl)) j5b))) (j03 (j12 (j0w (ptT (j09 (G) hr (by rfl) T.m_z57 T.F_z57.kp T.b_z57 .nil j0i (j00 (pv 2) (j00 (pv 3) j01))) (fun _=>rfl))) (j03 (j0c j4c)) j0d)))
   (j03 (j0c j4c))),?_⟩
  have l1:=hd.length
  have l2:=he.length
  walk_at "v"
  refine⟨p,q,xs,ys,false,false,rfl,SqL.of hp,SqL.of hq',jef (fun i σ H2=>(∃ u v,σ=[some (.ref p),some (.ref q),u,v])∧Ext H H2) (show xs.length=ys.length by omega) ⟨⟨none,none,rfl⟩,Ext.rfl'⟩ (fun i σ H2 _ ⟨_,e⟩=>⟨SqL.of (e _ _ hp),SqL.of (e _ _ hq')⟩) ?_ ?_⟩
  ·rintro i x y σ H2 r hx hy ⟨⟨u,v,rfl⟩,e⟩ hr0
   obtain⟨d,d1,d2⟩:=hd.get hx
   obtain⟨f,f1,f2⟩:=he.get hy
   rw[d1] at f1
   cases f1
   refine jgi j0a rfl ?_
   walk_at "v"
   have e2:Ext H (upd H2 r (.tup [x,y])):=e.tr (j1e hr0)
   refine⟨x,y,d,rfl,d2.mono e2,f2.mono e2,jde hf d1,j7l hn d1,fun H3 e3=>?_⟩
   walk_at "v"
   exact⟨⟨_,_,rfl⟩,e2.tr e3⟩
  ·rintro σ H2 ⟨⟨u,v,rfl⟩,e⟩
   walk_at "v"
   exact hq H2 e
theorem jdj {n k:Nat}{spA:Sp} (T:Txt w K mg a) (hA:∀ vs H Q E,(∃ m,n=m+1∧j1o m vs H Q E)→spA vs H Q E) (GA:FnOk P w K mg base (CXU P w) (k+1) a.f_z20 a.d_z20 ["_law_found","_law_due"] spA) :
  FnOk P w K mg base (CXU P w) (k+2) a.f_z57 a.d_z57 ["_law_found","_law_due"] (j1s n):=by
 refine T.F_z57.okU sc_z57 (fun vs H Q E h=>?_) (fun cdv A outer s H vs Q E hr h=>?_)
 ·obtain⟨x,y,d,rfl,_⟩:=h
  rfl
 ·obtain⟨x,y,d,rfl,h1,h2,hf,hn,hq⟩:=h
  refine⟨_,(j02 (j12 (ptT (j08 j59 (by rfl) T.n_isinstance PyProof.Rows.boot_isinstance (j00 (pv 1) (j00 (j17 (v:=V.ty "tuple") (by rfl) T.n_tuple PyProof.Rows.boot_tuple rfl) j01))) (fun _=>rfl)) (j03 (j0c (j1p (j08 j59 (by rfl) T.n_isinstance PyProof.Rows.boot_isinstance (j00 (pv 0) (j00 (j17 (v:=V.ty "tuple") (by rfl) T.n_tuple PyProof.Rows.boot_tuple rfl) j01))) (j1p (j1l (oEq hr) (j08 j24 (by rfl) T.n_len PySem.boot_len (j00 (pv 0) j01)) (j08 j24 (by rfl) T.n_len PySem.boot_len (j00 (pv 1) j01)) (j0j _)) (j23 (j09 (GA) (hr.mono (by omega)) (by rfl) T.m_z20 T.F_z20.kp T.b_z20 .nil j0i (j00 (j0n jea (by rfl) T.n_list PyProof.Rows.boot_list (j00 (pv 0) j01)) (j00 (j0n jea (by rfl) T.n_list PyProof.Rows.boot_list (j00 (pv 1) j01)) j01)))))))) j0d)
   (j02 (j12 (ptT (j08 j59 (by rfl) T.n_isinstance PyProof.Rows.boot_isinstance (j00 (pv 1) (j00 (j17 (v:=V.ty "list") (by rfl) T.n_list PyProof.Rows.boot_list rfl) j01))) (fun _=>rfl)) (j03 (j0c (j1p (j08 j59 (by rfl) T.n_isinstance PyProof.Rows.boot_isinstance (j00 (pv 0) (j00 (j17 (v:=V.ty "list") (by rfl) T.n_list PyProof.Rows.boot_list rfl) j01))) (j1p (j1l (oEq hr) (j08 j24 (by rfl) T.n_len PySem.boot_len (j00 (pv 0) j01)) (j08 j24 (by rfl) T.n_len PySem.boot_len (j00 (pv 1) j01)) (j0j _)) (j23 (j09 (GA) (hr.mono (by omega)) (by rfl) T.m_z20 T.F_z20.kp T.b_z20 .nil j0i (j00 (pv 0) (j00 (pv 1) j01)))))))) j0d)
   (j02 (j12 (ptT (j08 j59 (by rfl) T.n_isinstance PyProof.Rows.boot_isinstance (j00 (pv 1) (j00 (j17 (v:=V.ty "str") (by rfl) T.n_str PyProof.Rows.boot_str rfl) j01))) (fun _=>rfl)) (j03 (j0c (j1p (j08 j59 (by rfl) T.n_isinstance PyProof.Rows.boot_isinstance (j00 (pv 0) (j00 (j17 (v:=V.ty "str") (by rfl) T.n_str PyProof.Rows.boot_str rfl) j01))) (j23 (j1l (oEq hr) (pv 0) (pv 1) (j0j _)))))) j0d)
   (j03 (j0c (j1p (j09 (j6s T) (hr.mono (by omega)) (by rfl) T.m_z52 T.F_z52.kp T.b_z52 .nil j0i (j00 (pv 0) j01)) (j23 (j1l (oEq hr) (pv 0) (pv 1) (j0j _))))))))),?_⟩
  have k1:=h1.kd
  have k2:=h2.kd
  walk_at "v"
  refine j69 k2 ?_
  cases d with
  | tup ds =>
   obtain⟨p,xs,rfl,hp,hd⟩:=h1
   obtain⟨q,ys,rfl,hq',he⟩:=h2
   have l1:=hd.length
   have l2:=he.length
   walk_at "v"
   refine j69 k1 ?_
   walk_at "v"
   refine j0m hp ?_
   walk_at "v"
   refine j0m hq' ?_
   walk_at "v"
   refine iteD (fun hl=>?_) (fun hl=>absurd (show (xs.length:Int)=ys.length by omega) hl)
   walk_at "v"
   refine j33 hp fun p2 H2 n2 hp2 e2=>?_
   walk_at "v"
   refine j33 (e2 _ _ hq') fun q2 H3 n3 hq3 e3=>?_
   walk_at "v"
   have hn':D.depthL ds+1≤n:=hn
   exact hA _ _ _ _ ⟨n-1,by omega,p2,q2,xs,ys,ds,rfl,e3 _ _ hp2,hq3,hd.mono (e2.tr e3),he.mono (e2.tr e3),hf,by omega,fun H4 e4=>hq H4 ((e2.tr e3).tr e4)⟩
  | lst ds =>
   obtain⟨p,xs,rfl,hp,hd⟩:=h1
   obtain⟨q,ys,rfl,hq',he⟩:=h2
   have l1:=hd.length
   have l2:=he.length
   walk_at "v"
   refine jip k2 ?_
   walk_at "v"
   refine jip k1 ?_
   walk_at "v"
   refine j10 hp ?_
   walk_at "v"
   refine j10 hq' ?_
   walk_at "v"
   refine iteD (fun hl=>?_) (fun hl=>absurd (show (xs.length:Int)=ys.length by omega) hl)
   walk_at "v"
   have hn':D.depthL ds+1≤n:=hn
   exact hA _ _ _ _ ⟨n-1,by omega,p,q,xs,ys,ds,rfl,hp,hq',hd,he,hf,by omega,hq⟩
  | str c =>
   cases (show y=.str c from h2)
   cases (show x=.str c from h1)
   walk_at "v"
   refine jip k2 ?_
   walk_at "v"
   refine jfj k2 ?_
   walk_at "v"
   refine jfj k1 ?_
   walk_at "v"
   refine j0b ?_
   rw[decide_eq_true rfl]
   exact hq H Ext.rfl'
  | int c =>
   cases (show y=.int c from h2)
   cases (show x=.int c from h1)
   walk_at "v"
   refine jip k2 ?_
   walk_at "v"
   refine jfj k2 ?_
   walk_at "v"
   refine⟨.int c,_,rfl,k1,?_⟩
   walk_at "v"
   rw[decide_eq_true rfl]
   exact hq H Ext.rfl'
  | bl c=>cases hf
  | non=>cases hf
  | dct=>cases hf
theorem j7z (T:Txt w K mg a):∀ n:Nat,FnOk P w K mg base (CXU P w) (2 * n+2) a.f_z57 a.d_z57 ["_law_found","_law_due"] (j1s n)
 | 0=>jdj (k:=0) (spA:=fun _ _ _ _=>False) T (fun _ _ _ _ ⟨m,e,_⟩=>by omega) FnOk.no
 | n+1=>by
  have G:=j8n T (j7z T n)
  have z:=jdj (n:=n+1) (k:=2 * n+2) (spA:=j1o n) T (fun _ _ _ _ ⟨m,e,h⟩=>by cases e;exact h) G
  exact z
theorem j2x (T:Txt w K mg a):FnOk P w K mg base (CXU P w) 12 a.f_z57 a.d_z57 ["_law_found","_law_due"] (j1s 5):=j7z T 5
theorem j4y {x y:V}{d:D}{H:Hp}{Q:VK}{E:XK} (h1:Rep H d x) (h2:Rep H d y) (hf:plD d=true) (hd:Nat.ble d.depth 5=true) (hq:∀ H',Ext H H'→Q (.bl true) H'):j1s 5 [x,y] H Q E :=
 ⟨x,y,d,rfl,h1,h2,hf,Nat.le_of_ble_eq_true hd,hq⟩
theorem j0g (T:Txt w K mg a):FnOk P w K mg base (CXU P w) 1 a.f_z3 a.d_z3 ["self","row"] (jir K):=by
 refine T.F_z3.okU sc_z3 (fun vs H Q E h=>?_) (fun cdv A outer s H vs Q E hr h=>?_)
 ·obtain⟨x,C,bm,v,rfl,hx,hs,hq⟩:=h
  rfl
 ·obtain⟨x,C,bm,v,rfl,hx,hs,hq⟩:=h
  have zc_Keeper:=T.cl_Keeper
  have zn_Keeper_row:=T.na_Keeper_row
  refine⟨_,(j03 (ps_err (pv 0) (pv 1) rfl)),?_⟩
  exact⟨v,rfl,.ref x,rfl,x,C,bm,rfl,hx,hs,fun dx h1 h2=>hq dx h1 h2⟩
def j2y:Sp:=fun vs H Q _=>∃ x k,vs=[x]∧HasK H x k∧Q (.bl (k == .int)) H
theorem j0s (T:Txt w K mg a):FnOk P w K mg base (CXU P w) 1 a.f_z1 a.d_z1 ["thing"] (j2y):=by
 refine T.F_z1.okU sc_z1 (fun vs H Q E h=>?_) (fun cdv A outer s H vs Q E hr h=>?_)
 ·obtain⟨x,k,rfl,hk,hq⟩:=h
  rfl
 ·obtain⟨x,k,rfl,hk,hq⟩:=h
  refine⟨_,(j03 (j0c (j1p (j08 j59 (by rfl) T.n_isinstance PyProof.Rows.boot_isinstance (j00 (pv 0) (j00 (j17 (v:=V.ty "int") (by rfl) T.n_int PyProof.Rows.boot_int rfl) j01))) (j23 (jfn (j08 j59 (by rfl) T.n_isinstance PyProof.Rows.boot_isinstance (j00 (pv 0) (j00 (j17 (v:=V.ty "bool") (by rfl) T.n_bool PyProof.Rows.boot_bool rfl) j01)))))))),?_⟩
  walk_at "v"
  refine r_isI hk ?_
  cases k <;> (walk_at "v") <;> first | exact hq | (refine r_isB hk ?_;(walk_at "v");exact hq)
def fot (m:Int):V→Bool
 | .int i=>decide (1≤i) && decide (i≤m)
 | _=>false
def j36:Sp:=fun vs H Q _=>∃ x k m,vs=[x,.int m]∧HasK H x k∧Q (.bl (fot m x)) H
theorem j1i (T:Txt w K mg a):FnOk P w K mg base (CXU P w) 2 a.f_z6 a.d_z6 ["thing","most"] (j36):=by
 refine T.F_z6.okU sc_z6 (fun vs H Q E h=>?_) (fun cdv A outer s H vs Q E hr h=>?_)
 ·obtain⟨x,k,m,rfl,hk,hq⟩:=h
  rfl
 ·obtain⟨x,k,m,rfl,hk,hq⟩:=h
  refine⟨_,(j03 (j0c (j1p (j09 (j0s T) (hr.mono (by decide)) (by rfl) T.m_z1 T.F_z1.kp T.b_z1 .nil j0i (j00 (pv 0) j01)) (j23 (j2c oLeW oLeW j05 (pv 0) (pv 1)))))),?_⟩
  walk_at "v"
  refine⟨x,k,rfl,hk,?_⟩
  cases x with
  | int i =>
   cases (show k=.int from hk)
   walk_at "v"
   refine iteD (fun h=>?_) (fun h=>?_)
   ·walk_at "v"
    have e:fot m (.int i)=decide (i≤m):=by show (decide (1≤i) && _)=_;rw[decide_eq_true h,Bool.true_and]
    rw[← e];exact hq
   ·walk_at "v"
    have e:fot m (.int i)=false:=by show (decide (1≤i) && _)=_;rw[decide_eq_false h,Bool.false_and]
    rw[← e];exact hq
  | non=>cases (show k=.non from hk);(walk_at "v");exact hq
  | bl b=>cases (show k=.bl from hk);(walk_at "v");exact hq
  | str b=>cases (show k=.str from hk);(walk_at "v");exact hq
  | ref b =>
   have e:(k == .int)=false:=by rcases hk with⟨_,_,rfl⟩ | ⟨_,_,rfl⟩ | ⟨_,_,rfl⟩ <;> rfl
   rw[e];(walk_at "v");exact hq
  | _=>exact hk.elim
namespace Nb
def j40 (a:Adr):Sp:=fun vs H Q _=>∃ (w dw:Addr) (R:Int) (x:V) (k:Kd),vs=[.ref w,x]∧H w=some (.ins a.c_Bags dw [("room",.int R)])∧HasK H x k∧Q (.bl (fot R x)) H
theorem ok_Bags_is_wish (T:Txt w K mg a):FnOk P w K mg base (CXU P w) 3 a.f_z14 a.d_z14 ["self","thing"] (j40 a):=by
 refine T.F_z14.okU sc_z14 (fun vs H Q E h=>?_) (fun cdv A outer s H vs Q E hr h=>?_)
 ·obtain⟨w,dw,R,x,k,rfl,hw,hk,hq⟩:=h
  rfl
 ·obtain⟨w,dw,R,x,k,rfl,hw,hk,hq⟩:=h
  have zc_Bags:=T.cl_Bags
  have zn_Bags_room:=T.na_Bags_room
  refine⟨_,(j03 (j0c (j09 (j1i T) (hr.mono (by decide)) (by rfl) T.m_z6 T.F_z6.kp T.b_z6 .nil j0i (j00 (pv 1) (j00 (j2d (pv 0) rfl) j01))))),?_⟩
  walk_at "v"
  exact⟨x,k,R,rfl,hk,hq⟩
end Nb
def jan:Sp:=fun vs H Q _=>∃ x k,vs=[x]∧HasK H x k∧(∀ z,x=.str z→AscS z∧z.length≤1000)∧∀ H',Ext H H'→Q (.bl (nmV x)) H'
theorem j3k (T:Txt w K mg a):FnOk P w K mg base (CXU P w) 1 a.f_z59 a.d_z59 ["thing"] (jan):=by
 refine T.F_z59.okU sc_z59 (fun vs H Q E h=>?_) (fun cdv A outer s H vs Q E hr h=>?_)
 ·obtain⟨x,k,rfl,hk,hz,hq⟩:=h
  rfl
 ·obtain⟨x,k,rfl,hk,hz,hq⟩:=h
  refine⟨_,(j02 (j12 (PW.pt (j58 (j0w (ptT (j08 j59 (by rfl) T.n_isinstance PyProof.Rows.boot_isinstance (j00 (pv 0) (j00 (j17 (v:=V.ty "str") (by rfl) T.n_str PyProof.Rows.boot_str rfl) j01))) (fun _=>rfl))) (j2a (j0w (j6e oLeW oLeW j05 (j08 j24 (by rfl) T.n_len PySem.boot_len (j00 (pv 0) j01)) j05))))) (j03 (j0c j4c)) j0d)
   (j03 (j0c (j08 (cAll rfl) (by rfl) T.n_all PyProof.Rows.boot_all (j00 (j1r (["sign"]:List Str) ([]:List Str) [] rfl ⟨rfl,by decide +kernel,by decide +kernel,by rfl,trivial⟩ (jh2 (pv 0)) (fun _ _ _ _=>⟨(j0p (i:=0) (by show ((["sign"]:List Str)++([]:List Str)).Nodup;decide +kernel) rfl (by first | exact Or.inl rfl | exact Or.inr rfl)),(show PTs _ [] [] from trivial),(j2c oLeW oLeW j06 (pv 0) j06)⟩)) j01))))),?_⟩
  walk_at "v"
  refine jfj hk ?_
  cases x with
  | str z =>
   cases (show k=.str from hk)
   obtain⟨ha,hl⟩:=hz z rfl
   walk_at "v"
   refine ja3 (by omega) ?_
   walk_at "v"
   refine iteD (fun c1=>?_) (fun c1=>?_)
   rotate_left
   ·walk_at "v"
    have e:nmV (.str z)=false:=by show nmS z=false;unfold nmS;rw[show decide (1≤z.length)=false from decide_eq_false (by omega)];rfl
    rw[← e];exact hq H Ext.rfl'
   walk_at "v"
   refine iteN (fun c2=>?_) (fun c2=>?_)
   ·walk_at "v"
    have e:nmV (.str z)=false:=by show nmS z=false;unfold nmS;rw[show decide (z.length≤8)=false from decide_eq_false (by omega),Bool.and_false];rfl
    rw[← e];exact hq H Ext.rfl'
   walk_at "v"
   refine⟨z,rfl,ha,fun acc hn _ _ _ _=>j9v V.bl nmL (by show z.length≤1000000;omega) hn (fun i c H3 Y hc e hY=>?_) fun H2 e2 hacc=>?_⟩
   ·walk_at "v"
    rw[cps_a,le_a]
    refine iteD (fun g1=>?_) (fun g1=>?_)
    ·walk_at "v"
     rw[cps_z,le_z]
     have e:nmL c=decide (c≤122):=by unfold nmL;rw[decide_eq_true g1,Bool.true_and]
     rw[← e];exact hY _ Ext.rfl'
    ·have e:nmL c=false:=by unfold nmL;rw[decide_eq_false g1,Bool.false_and]
     rw[← e];exact hY _ Ext.rfl'
   ·walk_at "v"
    refine jd0 hacc ?_
    have e:nmV (.str z)=(z.cps.toList.map nmL).all id:=by
     show nmS z=_
     unfold nmS
     rw[show decide (1≤z.length)=true from decide_eq_true (by omega),show decide (z.length≤8)=true from decide_eq_true (by omega),List.all_map]
     rfl
    rw[← e];exact hq H2 e2
  | non=>cases (show k=.non from hk);(walk_at "v");exact hq H Ext.rfl'
  | bl b=>cases (show k=.bl from hk);(walk_at "v");exact hq H Ext.rfl'
  | int b=>cases (show k=.int from hk);(walk_at "v");exact hq H Ext.rfl'
  | ref b =>
   have e:(k == .str)=false:=by rcases hk with⟨_,_,rfl⟩ | ⟨_,_,rfl⟩ | ⟨_,_,rfl⟩ <;> rfl
   rw[e];(walk_at "v");exact hq H Ext.rfl'
  | _=>exact hk.elim
namespace Nk
def j3l:Sp:=fun vs H Q _=>∃ (w:Addr) (x:V),vs=[.ref w,x]∧ItemOk H x∧∀ H',Ext H H'→Q (.bl (nmV x)) H'
theorem ok_Store_is_wish (T:Txt w K mg a):FnOk P w K mg base (CXU P w) 2 a.f_z11 a.d_z11 ["self","thing"] (j3l):=by
 refine T.F_z11.okU sc_z11 (fun vs H Q E h=>?_) (fun cdv A outer s H vs Q E hr h=>?_)
 ·obtain⟨w,x,rfl,⟨k,hk,hz⟩,hq⟩:=h
  rfl
 ·obtain⟨w,x,rfl,⟨k,hk,hz⟩,hq⟩:=h
  refine⟨_,(j03 (j0c (j09 (j3k T) (hr.mono (by decide)) (by rfl) T.m_z59 T.F_z59.kp T.b_z59 .nil j0i (j00 (pv 1) j01)))),?_⟩
  walk_at "v"
  exact⟨x,k,rfl,hk,hz,hq⟩
end Nk
def amt:V→Bool
 | .int i=>decide (0≤i) && decide (i≤1000000000000000000)
 | _=>false
def j6t:Sp:=fun vs H Q _=>∃ x k,vs=[x]∧HasK H x k∧Q (.bl (amt x)) H
theorem j1k (T:Txt w K mg a):FnOk P w K mg base (CXU P w) 2 a.f_z46 a.d_z46 ["thing"] (j6t):=by
 refine T.F_z46.okU sc_z46 (fun vs H Q E h=>?_) (fun cdv A outer s H vs Q E hr h=>?_)
 ·obtain⟨x,k,rfl,hk,hq⟩:=h
  rfl
 ·obtain⟨x,k,rfl,hk,hq⟩:=h
  refine⟨_,(j03 (j0c (j1p (j09 (j0s T) (hr.mono (by decide)) (by rfl) T.m_z1 T.F_z1.kp T.b_z1 .nil j0i (j00 (pv 0) j01)) (j23 (j2c oLeW oLeW j05 (pv 0) (j0f j87 j05 j05)))))),?_⟩
  walk_at "v"
  refine⟨x,k,rfl,hk,?_⟩
  cases x with
  | int i =>
   cases (show k=.int from hk)
   walk_at "v"
   refine iteD (fun h=>?_) (fun h=>?_)
   ·walk_at "v"
    have e:amt (.int i)=decide (i≤1000000000000000000):=by show (decide (0≤i) && _)=_;rw[decide_eq_true h,Bool.true_and]
    rw[← e];exact hq
   ·walk_at "v"
    have e:amt (.int i)=false:=by show (decide (0≤i) && _)=_;rw[decide_eq_false h,Bool.false_and]
    rw[← e];exact hq
  | non=>cases (show k=.non from hk);(walk_at "v");exact hq
  | bl b=>cases (show k=.bl from hk);(walk_at "v");exact hq
  | str b=>cases (show k=.str from hk);(walk_at "v");exact hq
  | ref b =>
   have e:(k == .int)=false:=by rcases hk with⟨_,_,rfl⟩ | ⟨_,_,rfl⟩ | ⟨_,_,rfl⟩ <;> rfl
   rw[e];(walk_at "v");exact hq
  | _=>exact hk.elim
namespace Nw
def wsh (n:Int) (xs:List V):Bool:=decide ((xs.length:Int)=n) && xs.all amt
def Asked (H:Hp) (n:Int) (x:V) (b:Bool):Prop:=(∃ (p:Addr) (xs:List V),x=.ref p∧H p=some (.tup xs)∧xs.length≤1000∧(∀ y∈xs,∃ k,HasK H y k)∧wsh n xs=b)∨(∃ k,HasK H x k∧k≠.tup∧b=false)
def j41 (a:Adr):Sp:=fun vs H Q _=>∃ (w dw:Addr) (n t:Int) (x:V) (b:Bool),vs=[.ref w,x]∧H w=some (.ins a.c_Ways dw [("many",.int n),("toll",.int t)])∧Asked H n x b∧∀ H',Ext H H'→Q (.bl b) H'
theorem ok_Ways_is_wish (T:Txt w K mg a):FnOk P w K mg base (CXU P w) 3 a.f_z18 a.d_z18 ["self","thing"] (j41 a):=by
 refine T.F_z18.okU sc_z18 (fun vs H Q E h=>?_) (fun cdv A outer s H vs Q E hr h=>?_)
 ·obtain⟨w,dw,n,t,x,b,rfl,hw,hx,hq⟩:=h
  rfl
 ·obtain⟨w,dw,n,t,x,b,rfl,hw,hx,hq⟩:=h
  have zc_Line:=T.cl_Line
  have zn_Line_many:=T.na_Line_many
  have zc_Store:=T.cl_Store
  have zn_Store_many:=T.na_Store_many
  have zc_Ways:=T.cl_Ways
  have zn_Ways_many:=T.na_Ways_many
  refine⟨_,(j02 (j12 (PW.pt (j58 (j0w (ptT (j08 j59 (by rfl) T.n_isinstance PyProof.Rows.boot_isinstance (j00 (pv 1) (j00 (j17 (v:=V.ty "tuple") (by rfl) T.n_tuple PyProof.Rows.boot_tuple rfl) j01))) (fun _=>rfl))) (j2a (j0h jim (j08 j24 (by rfl) T.n_len PySem.boot_len (j00 (pv 1) j01)) (j2d (pv 0) rfl) (j0j _))))) (j03 (j0c j4c)) j0d)
   (j03 (j0c (j08 (cAll rfl) (by rfl) T.n_all PyProof.Rows.boot_all (j00 (j1r (["charge"]:List Str) ([]:List Str) [] rfl ⟨rfl,by decide +kernel,by decide +kernel,by rfl,trivial⟩ (j8z (pv 1)) (fun _ _ _ _=>⟨(j0p (i:=0) (by show ((["charge"]:List Str)++([]:List Str)).Nodup;decide +kernel) rfl (by first | exact Or.inl rfl | exact Or.inr rfl)),(show PTs _ [] [] from trivial),(j09 (j1k T) (hr.mono (by decide)) (by rfl) T.m_z46 T.F_z46.kp T.b_z46 .nil j0i (j00 (pv 0) j01))⟩)) j01))))),?_⟩
  rcases hx with⟨p,xs,rfl,hp,hz,hk,rfl⟩ | ⟨k,hk,nk,rfl⟩
  ·unfold wsh at hq
   walk_at "v"
   refine j69 (HasK.t hp) ?_
   walk_at "v"
   refine j0m hp ?_
   walk_at "v"
   refine iteN (fun c=>?_) (fun c=>?_)
   ·walk_at "v"
    rw[decide_eq_false c] at hq
    exact hq H Ext.rfl'
   rw[decide_eq_true c,Bool.true_and] at hq
   have hp':H p=some (.tup (xs.map id)):=by rw[List.map_id];exact hp
   walk_at "v"
   refine⟨p,rfl,⟨_,SqT.of hp'⟩,fun acc hn _ _ _ _=>j3a id V.bl amt (SqT.of hp') (by omega) hn (fun i y H2 Y hy e hY=>?_) fun H2 e ha=>?_⟩
   ·obtain⟨k,hk⟩:=hk y (List.mem_of_getElem? hy)
    walk_at "v"
    exact⟨y,k,rfl,hk.mono e,hY _ Ext.rfl'⟩
   ·walk_at "v"
    refine jd0 ha ?_
    rw[List.all_map]
    exact hq H2 e
  ·walk_at "v"
   refine j69 hk ?_
   rw[show (k == Kd.tup)=false by cases k <;> first | rfl | exact (nk rfl).elim]
   walk_at "v"
   exact hq H Ext.rfl'
end Nw
namespace Nh
def j42:Sp:=fun vs H Q _=>∃ r x k,vs=[.ref r,x]∧HasK H x k∧Q (.bl (amt x)) H
theorem ok_Hire_is_wish (T:Txt w K mg a):FnOk P w K mg base (CXU P w) 3 a.f_z16 a.d_z16 ["self","thing"] (j42):=by
 refine T.F_z16.okU sc_z16 (fun vs H Q E h=>?_) (fun cdv A outer s H vs Q E hr h=>?_)
 ·obtain⟨r,x,k,rfl,hk,hq⟩:=h
  rfl
 ·obtain⟨r,x,k,rfl,hk,hq⟩:=h
  refine⟨_,(j03 (j0c (j09 (j1k T) (hr.mono (by decide)) (by rfl) T.m_z46 T.F_z46.kp T.b_z46 .nil j0i (j00 (pv 1) j01)))),?_⟩
  walk_at "v"
  exact⟨x,k,rfl,hk,hq⟩
end Nh
namespace Ns
def wsh:V→List Str→Bool
 | .str z,ts=>nmS z && decide (z∈ts)
 | _,_=>false
theorem wsh_nm {x:V}{ts:List Str} (h:nmV x=false):wsh x ts=false:=by
 cases x with
 | str z=>show (nmS z && decide (z∈ts))=false;rw[show nmS z=false from h];rfl
 | _=>rfl
theorem jhx:∀ {x:V},nmV x=true→∃ z,x=.str z
 | .str z,_=>⟨z,rfl⟩
def j3m (a:Adr):Sp:=fun vs H Q _=>∃ (w dw tp:Addr) (ts:List Str) (x:V),vs=[.ref w,x]∧H w=some (.ins a.c_Shelf dw [("things",.ref tp)])∧H tp=some (.tup (ts.map V.str))∧ItemOk H x∧∀ H',Ext H H'→Q (.bl (wsh x ts)) H'
theorem ok_Shelf_is_wish (T:Txt w K mg a):FnOk P w K mg base (CXU P w) 2 a.f_z10 a.d_z10 ["self","thing"] (j3m a):=by
 refine T.F_z10.okU sc_z10 (fun vs H Q E h=>?_) (fun cdv A outer s H vs Q E hr h=>?_)
 ·obtain⟨w,dw,tp,ts,x,rfl,hw,ht,⟨k,hk,hz⟩,hq⟩:=h
  rfl
 ·obtain⟨w,dw,tp,ts,x,rfl,hw,ht,⟨k,hk,hz⟩,hq⟩:=h
  have zc_Shelf:=T.cl_Shelf
  have zn_Shelf_things:=T.na_Shelf_things
  refine⟨_,(j03 (j0c (j1p (j09 (j3k T) (hr.mono (by decide)) (by rfl) T.m_z59 T.F_z59.kp T.b_z59 .nil j0i (j00 (pv 1) j01)) (j23 (j1l oIn (pv 1) (j2d (pv 0) rfl) (by with_unfolding_all rfl)))))),?_⟩
  walk_at "v"
  refine⟨x,k,rfl,hk,hz,fun H1 e1=>?_⟩
  have hw1:=e1 _ _ hw
  cases hb:nmV x with
  | false =>
   walk_at "v"
   rw[← wsh_nm (ts:=ts) hb]
   exact hq H1 e1
  | true =>
   obtain⟨z,rfl⟩:=jhx hb
   walk_at "v"
   refine r_inT (e1 _ _ ht) rfl (j7w _) ?_
   have e:wsh (.str z) ts=decide (z∈ts):=by show (nmS z && _)=_;rw[show nmS z=true from hb,Bool.true_and]
   rw[jaa,← e]
   exact hq H1 e1
end Ns
def plc:V→Bool
 | .int i=>decide ((i.natAbs:Int)≤1000000000000000000)
 | _=>false
def j8o:Sp:=fun vs H Q _=>∃ x k,vs=[x]∧HasK H x k∧Q (.bl (plc x)) H
theorem j4j (T:Txt w K mg a):FnOk P w K mg base (CXU P w) 2 a.f_z55 a.d_z55 ["thing"] (j8o):=by
 refine T.F_z55.okU sc_z55 (fun vs H Q E h=>?_) (fun cdv A outer s H vs Q E hr h=>?_)
 ·obtain⟨x,k,rfl,hk,hq⟩:=h
  rfl
 ·obtain⟨x,k,rfl,hk,hq⟩:=h
  refine⟨_,(j03 (j0c (j1p (j09 (j0s T) (hr.mono (by decide)) (by rfl) T.m_z1 T.F_z1.kp T.b_z1 .nil j0i (j00 (pv 0) j01)) (j23 (j1l oLeW (j08 cAbs (by rfl) T.n_abs PyProof.Rows.boot_abs (j00 (pv 0) j01)) (j0f j87 j05 j05) (j0j _)))))),?_⟩
  walk_at "v"
  refine⟨x,k,rfl,hk,?_⟩
  cases x with
  | int i =>
   cases (show k=.int from hk)
   walk_at "v"
   exact hq
  | non=>cases (show k=.non from hk);(walk_at "v");exact hq
  | bl b=>cases (show k=.bl from hk);(walk_at "v");exact hq
  | str b=>cases (show k=.str from hk);(walk_at "v");exact hq
  | ref b =>
   have e:(k == .int)=false:=by rcases hk with⟨_,_,rfl⟩ | ⟨_,_,rfl⟩ | ⟨_,_,rfl⟩ <;> rfl
   rw[e];(walk_at "v");exact hq
  | _=>exact hk.elim
namespace Nl
def j43:Sp:=fun vs H Q _=>∃ r x k,vs=[.ref r,x]∧HasK H x k∧Q (.bl (plc x)) H
theorem ok_Line_is_wish (T:Txt w K mg a):FnOk P w K mg base (CXU P w) 3 a.f_z17 a.d_z17 ["self","thing"] (j43):=by
 refine T.F_z17.okU sc_z17 (fun vs H Q E h=>?_) (fun cdv A outer s H vs Q E hr h=>?_)
 ·obtain⟨r,x,k,rfl,hk,hq⟩:=h
  rfl
 ·obtain⟨r,x,k,rfl,hk,hq⟩:=h
  refine⟨_,(j03 (j0c (j09 (j4j T) (hr.mono (by decide)) (by rfl) T.m_z55 T.F_z55.kp T.b_z55 .nil j0i (j00 (pv 1) j01)))),?_⟩
  walk_at "v"
  exact⟨x,k,rfl,hk,hq⟩
end Nl
def j4z:Sp:=fun vs H Q _=>∃ z:Str,vs=[.str z]∧AscS z∧z.length≤1000000∧∀ H',Ext H H'→Q (.bl (figB z)) H'
theorem j2q (T:Txt w K mg a):FnOk P w K mg base (CXU P w) 1 a.f_z25 a.d_z25 ["text"] (j4z):=by
 refine T.F_z25.okU sc_z25 (fun vs H Q E h=>?_) (fun cdv A outer s H vs Q E hr h=>?_)
 ·obtain⟨z,rfl,ha,hl,hq⟩:=h
  rfl
 ·obtain⟨z,rfl,ha,hl,hq⟩:=h
  refine⟨_,(j02 (j12 (PW.pt (j58 (j0w (j6e oLeW oLeW j05 (j08 j24 (by rfl) T.n_len PySem.boot_len (j00 (pv 0) j01)) (j1j (v:=V.int 19) (by rfl) T.m_MOST_FIGURES ⟨_,rfl⟩))) (j2a (j0w (ptT (j08 (cAll rfl) (by rfl) T.n_all PyProof.Rows.boot_all (j00 (j1r (["sign"]:List Str) ([]:List Str) [] rfl ⟨rfl,by decide +kernel,by decide +kernel,by rfl,trivial⟩ (jh2 (pv 0)) (fun _ _ _ _=>⟨(j0p (i:=0) (by show ((["sign"]:List Str)++([]:List Str)).Nodup;decide +kernel) rfl (by first | exact Or.inl rfl | exact Or.inr rfl)),(show PTs _ [] [] from trivial),(j2c oLeW oLeW j06 (pv 0) j06)⟩)) j01)) (fun _=>rfl)))))) (j03 (j0c j4c)) j0d)
   (j03 (j0c (pe_or (j1l (oEq hr) (pv 0) j06 (j0j _)) (j23 (j1l (oNe hr) (j1h oIx (pv 0) j05 (fun _ _=>rfl)) j06 (j0j _))))))),?_⟩
  walk_at "v"
  refine ja3 hl ?_
  walk_at "v"
  refine iteD (fun c1=>?_) (fun c1=>?_)
  rotate_left
  ·walk_at "v"
   have e:figB z=false:=by unfold figB;rw[show decide (1≤z.length)=false from decide_eq_false (by omega)];rfl
   rw[← e];exact hq H Ext.rfl'
  walk_at "v"
  refine iteN (fun c2=>?_) (fun c2=>?_)
  ·walk_at "v"
   have e:figB z=false:=by unfold figB;rw[show decide (z.length≤19)=false from decide_eq_false (by omega),Bool.and_false];rfl
   rw[← e];exact hq H Ext.rfl'
  walk_at "v"
  refine⟨z,rfl,ha,fun acc hn _ _ _ _=>j9v V.bl dig (by show z.length≤1000000;omega) hn (fun i c H3 Y hc e hY=>?_) fun H2 e2 hacc=>?_⟩
  ·walk_at "v"
   rw[cps_0,le_0]
   refine iteD (fun g1=>?_) (fun g1=>?_)
   ·walk_at "v"
    rw[cps_9,le_9]
    have e:dig c=decide (c≤57):=by unfold dig;rw[decide_eq_true g1,Bool.true_and]
    rw[← e];exact hY _ Ext.rfl'
   ·have e:dig c=false:=by unfold dig;rw[decide_eq_false g1,Bool.false_and]
    rw[← e];exact hY _ Ext.rfl'
  walk_at "v"
  refine jd0 hacc ?_
  have ea:(z.cps.toList.map dig).all id=z.cps.toList.all dig:=by rw[List.all_map];rfl
  rw[ea]
  have e0:figB z=(z.cps.toList.all dig && (decide (z=⟨#[48]⟩) || !decide (z.cps.toList.head?=some 48))):=by unfold figB;rw[decide_eq_true (show 1≤z.length by omega),decide_eq_true (show z.length≤19 by omega),Bool.true_and,Bool.true_and]
  cases hb:z.cps.toList.all dig with
  | false =>
   walk_at "v"
   have e:figB z=false:=by rw[e0,hb];rfl
   rw[← e];exact hq H2 e2
  | true =>
   rw[hb,Bool.true_and] at e0
   obtain⟨c,r,ez⟩:∃ c r,z.cps.toList=c :: r:=by
    cases q:z.cps.toList with
    | nil =>
     have:z.cps.toList.length=z.length:=Array.length_toList
     rw[q] at this
     simp at this
     omega
    | cons c r=>exact⟨c,r,rfl⟩
   walk_at "v"
   refine j0b ?_
   rw[show Str.ofString "0"=(⟨#[48]⟩:Str) by decide]
   walk_at "v"
   refine iteD (fun c3=>?_) (fun c3=>?_)
   ·have e:figB z=true:=by rw[e0,decide_eq_true c3];rfl
    rw[← e];exact hq H2 e2
   ·walk_at "v"
    refine jh6 hl (c:=c) (by rw[ez];exact j18 (by decide) rfl) ?_
    walk_at "v"
    refine j6n ?_
    have e:figB z=!decide ((⟨#[c]⟩:Str)=⟨#[48]⟩):=by
     rw[e0,decide_eq_false c3,Bool.false_or,ez]
     congr 1
     apply decide_eq_decide.mpr
     simp
    rw[← e];exact hq H2 e2
def jao:Sp:=fun vs H Q _=>∃ z:Str,vs=[.str z]∧AscS z∧z.length≤1000000∧∀ H',Ext H H'→Q (wrV z) H'
theorem jap (T:Txt w K mg a):FnOk P w K mg base (CXU P w) 2 a.f_z63 a.d_z63 ["word"] (jao):=by
 refine T.F_z63.okU sc_z63 (fun vs H Q E h=>?_) (fun cdv A outer s H vs Q E hr h=>?_)
 ·obtain⟨z,rfl,ha,hl,hq⟩:=h
  rfl
 ·obtain⟨z,rfl,ha,hl,hq⟩:=h
  refine⟨_,(j02 (j12 (ptT (j09 (j2q T) (hr.mono (by decide)) (by rfl) T.m_z25 T.F_z25.kp T.b_z25 .nil j0i (j00 (pv 0) j01)) (fun _=>rfl)) (j03 (j0c (j0n cIntS (by rfl) T.n_int PyProof.Rows.boot_int (j00 (pv 0) j01)))) j0d)
   (j02 (j12 (PW.pt (jb5 (ptT (j8v PySem.F.plainAttrs_str PySem.F.slot_str_startswith PySem.F.type_str_startswith jc6 (pv 0) (j00 j06 j01)) (fun _=>rfl)) (jb5 (ptT (j09 (j2q T) (hr.mono (by decide)) (by rfl) T.m_z25 T.F_z25.kp T.b_z25 .nil j0i (j00 (j1f j68 (pv 0) (j1m j05) j21) j01)) (fun _=>rfl)) (jcp (j0h (oNe hr) (pv 0) j06 (j0j _)))))) (j03 (j0c (jfg j88 (j0n cIntS (by rfl) T.n_int PyProof.Rows.boot_int (j00 (j1f j68 (pv 0) (j1m j05) j21) j01))))) j0d)
   (j03 (j0c (pv 0))))),?_⟩
  walk_at "v"
  refine⟨z,rfl,ha,hl,fun H1 e1=>?_⟩
  cases hf:figB z with
  | true =>
   walk_at "v"
   obtain⟨hi,l19⟩:=jdf hf
   refine jhf hi (by omega) ?_
   have e:wrV z=.int (dVal z.cps.toList:Nat):=by unfold wrV;rw[if_pos hf]
   rw[← e];exact hq H1 e1
  | false =>
   have e0:wrV z=if negB z then .int (-(dVal (tlS z).cps.toList:Nat)) else .str z:=by unfold wrV;rw[if_neg (by rw[hf];decide)]
   walk_at "v"
   refine jeq ?_
   rw[jam]
   walk_at "v"
   refine iteD (fun c1=>?_) (fun c1=>?_)
   rotate_left
   ·walk_at "v"
    have e:wrV z=.str z:=by rw[e0,if_neg];unfold negB;rw[decide_eq_false c1];simp
    rw[← e];exact hq H1 e1
   have h1:1≤z.length:=by
    cases q:z.cps.toList with
    | nil=>rw[q] at c1;simp at c1
    | cons c r =>
     have:z.cps.toList.length=z.length:=Array.length_toList
     rw[q] at this
     simp at this
     omega
   have ht:AscS (tlS z)∧(tlS z).length≤1000000:=by
    refine⟨jaj fun c hc=>jhw ha c (List.mem_of_mem_tail hc),?_⟩
    show (z.cps.toList.tail.toArray).size≤1000000
    rw[List.size_toArray,List.length_tail]
    have:z.cps.toList.length=z.length:=Array.length_toList
    omega
   walk_at "v"
   refine jhd hl ?_
   rw[jdi h1]
   walk_at "v"
   refine⟨tlS z,rfl,ht.1,ht.2,fun H2 e2=>?_⟩
   cases hg:figB (tlS z) with
   | false =>
    walk_at "v"
    have e:wrV z=.str z:=by rw[e0,if_neg];unfold negB;rw[hg];simp
    rw[← e];exact hq H2 (e1.tr e2)
   | true =>
    walk_at "v"
    refine j6n ?_
    rw[show Str.ofString "-0"=(⟨#[45,48]⟩:Str) by decide]
    walk_at "v"
    refine iteN (fun c2=>?_) (fun c2=>?_)
    ·walk_at "v"
     refine jhd hl ?_
     rw[jdi h1]
     obtain⟨hi,l19⟩:=jdf hg
     walk_at "v"
     refine jhf hi (by omega) ?_
     walk_at "v"
     have e:wrV z=.int (-(dVal (tlS z).cps.toList:Nat)):=by rw[e0,if_pos];unfold negB;rw[hg,decide_eq_true c1,decide_eq_false c2];rfl
     rw[← e];exact hq H2 (e1.tr e2)
    ·walk_at "v"
     have e:wrV z=.str z:=by rw[e0,if_neg];unfold negB;rw[decide_eq_true c2];simp
     rw[← e];exact hq H2 (e1.tr e2)
def jcg:Sp:=fun vs H Q _=>∃ (z w0:Str) (ws:List Str),vs=[.str z]∧AscS z∧z.length≤999990∧Txt.split z ⟨#[32]⟩=w0 :: ws∧∀ t q H',H' t=some (.tup [.str w0,.ref q])→H' q=some (.tup (ws.map wrV))→Ext H H'→Q (.ref t) H'
theorem j80 (T:Txt w K mg a):FnOk P w K mg base (CXU P w) 3 a.f_z64 a.d_z64 ["line"] (jcg):=by
 refine T.F_z64.okU jhk (fun vs H Q E h=>?_) (fun cdv A outer s H vs Q E hr h=>?_)
 ·obtain⟨z,w0,ws,rfl,ha,hl,hs,hq⟩:=h
  rfl
 ·obtain⟨z,w0,ws,rfl,ha,hl,hs,hq⟩:=h
  refine⟨_,(j02 (j0l (i:=1) jhk.nd rfl (by first | exact Or.inl rfl | exact Or.inr rfl) (j8v PySem.F.plainAttrs_str PySem.F.slot_str_split PySem.F.type_str_split ja6 (pv 0) (j00 j06 j01)))
   (j03 (j0c (j2e (j00 (j1h oIx (pv 1) j05 (fun _ _=>rfl)) (j00 (j0n j9g (by rfl) T.n_tuple PyProof.Rows.boot_tuple (j00 (j1r (["word"]:List Str) ([]:List Str) [] rfl ⟨rfl,by decide +kernel,by decide +kernel,by rfl,trivial⟩ (j5c (j1f oSl (pv 1) (j1m j05) j21)) (fun _ _ _ _=>⟨(j0p (i:=0) (by show ((["word"]:List Str)++([]:List Str)).Nodup;decide +kernel) rfl (by first | exact Or.inl rfl | exact Or.inr rfl)),(show PTs _ [] [] from trivial),(j09 (jap T) (hr.mono (by decide)) (by rfl) T.m_z63 T.F_z63.kp T.b_z63 .nil j0i (j00 (pv 0) j01))⟩)) j01)) j01)))))),?_⟩
  have hw:=j4x (c0:=32) ha (show z.length≤1000000 by omega)
  have hln:=split_le z ⟨#[32]⟩
  rw[hs] at hw hln
  walk_at "v"
  rw[show Str.ofString " "=(⟨#[32]⟩:Str) by decide]
  refine jdc (by omega) fun p H1 n1 q1 e1=>?_
  rw[hs] at q1
  walk_at "v"
  refine j26 q1 (v:=.str w0) (j18 (by decide) rfl) ?_
  walk_at "v"
  refine jcz q1 fun l2 H2 n2 q2 e2=>?_
  rw[jak _ (by simp),List.map_cons,List.drop_one,List.tail_cons] at q2
  walk_at "v"
  refine⟨l2,rfl,⟨_,SqL.of q2⟩,fun acc hn _ _ _ _=>jbw V.str id wrV (SqL.of q2) (by simp at hln;omega) hn (fun i x H3 Y hx e hY=>?_) fun H3 e3 hacc=>?_⟩
  ·walk_at "v"
   have hm:=hw x (List.mem_cons_of_mem _ (List.mem_of_getElem? hx))
   exact⟨x,rfl,hm.1,hm.2,fun H4 e4=>hY H4 e4⟩
  rw[List.map_id] at hacc
  walk_at "v"
  refine j2u hacc fun t4 H4 n4 q4 e4=>?_
  walk_at "v"
  intro t5 H5 n5 q5 e5
  exact hq t5 t4 H5 q5 (e5 _ _ q4) (e1.tr (e2.tr (e3.tr (e4.tr e5))))
def wiB:G83→List V→Bool
 | .ways n _ _,xs=>Nw.wsh (n:Nat) xs
 | .line _,[x]=>plc x
 | .hire _,[x]=>amt x
 | .bags R,[x]=>fot R x
 | .shelf ss,[x]=>Ns.wsh x ss
 | .store _,[x]=>nmV x
 | _,_=>false
def NoAsk (g:G83) (z:Str):Prop:=∃ w0 ws,Txt.split z ⟨#[32]⟩=w0 :: ws∧(w0≠askS∨wiB g (ws.map wrV)=false)
def j5t (a:Adr):Sp:=fun vs H Q _=>∃ (g:G83) (wd:Str) (pw:Addr) (z:Str),vs=[.str wd,.ref pw,.str z]∧wd=g.word∧g.ok∧g.rs.wo a H pw∧((∃ ww,z=lnW ww∧g.rs.okW ww∧∀ v H',ww.at_ H' v→Ext H H'→Q v H')∨(AscS z∧z.length≤900∧NoAsk g z∧∀ H',Ext H H'→Q .non H'))
theorem j5u (T:Txt w K mg a):FnOk P w K mg base (CXU P w) 4 a.f_z34 a.d_z34 ["word","world","line"] (j5t a):=by
 refine T.F_z34.okU jc9 (fun vs H Q E h=>?_) (fun cdv A outer s H vs Q E hr h=>?_)
 ·obtain⟨g,wd,pw,z,rfl,hwd,hok,hW,h⟩:=h
  rfl
 ·obtain⟨g,wd,pw,z,rfl,hwd,hok,hW,h⟩:=h
  refine⟨_,(j02 (j0l (i:=3) jc9.nd rfl (by first | exact Or.inl rfl | exact Or.inr rfl) (j09 (j80 T) (hr.mono (by decide)) (by rfl) T.m_z64 T.F_z64.kp T.b_z64 .nil j0i (j00 (pv 2) j01)))
   (j02 (j12 (j0h (oNe hr) (j1h oIx (pv 3) j05 (fun _ _=>rfl)) j06 (j0j _)) (j03 (j0c j6b)) j0d)
   (j02 (j12 (j0h (oEq hr) (pv 0) j06 (j0j _)) (j03 (j0l (i:=4) jc9.nd rfl (by first | exact Or.inl rfl | exact Or.inr rfl) (j1h oIx (pv 3) j05 (fun _ _=>rfl)))) (j03 (j0l (i:=4) jc9.nd rfl (by first | exact Or.inl rfl | exact Or.inr rfl) (j6c (j0h (oEq hr) (j08 j24 (by rfl) T.n_len PySem.boot_len (j00 (j1h oIx (pv 3) j05 (fun _ _=>rfl)) j01)) j05 (j0j _)) (j1h oIx (j1h oIx (pv 3) j05 (fun _ _=>rfl)) j05 (fun _ _=>rfl)) j6b))))
   (j03 (j0c (j6c (ptT (j3z (j1z (pv 1) T.cl_Line T.me_Line_is_wish (Nl.ok_Line_is_wish T) (hr.mono (by decide)) T.b_z17 .nil j0i (j00 (pv 4) j01)) (j3z (j1z (pv 1) T.cl_Shelf T.me_Shelf_is_wish (Ns.ok_Shelf_is_wish T) (hr.mono (by decide)) T.b_z10 .nil j0i (j00 (pv 4) j01)) (j3z (j1z (pv 1) T.cl_Hire T.me_Hire_is_wish (Nh.ok_Hire_is_wish T) (hr.mono (by decide)) T.b_z16 .nil j0i (j00 (pv 4) j01)) (j3z (j1z (pv 1) T.cl_Ways T.me_Ways_is_wish (Nw.ok_Ways_is_wish T) (hr.mono (by decide)) T.b_z18 .nil j0i (j00 (pv 4) j01)) (j3z (j1z (pv 1) T.cl_Store T.me_Store_is_wish (Nk.ok_Store_is_wish T) (hr.mono (by decide)) T.b_z11 .nil j0i (j00 (pv 4) j01)) (j1z (pv 1) T.cl_Bags T.me_Bags_is_wish (Nb.ok_Bags_is_wish T) (hr.mono (by decide)) T.b_z14 .nil j0i (j00 (pv 4) j01))))))) (fun _=>rfl)) (pv 4) j6b)))))),?_⟩
  rcases h with⟨ww,rfl,hww,hq⟩ | ⟨ha,hl,⟨w0,ws,hs,hno⟩,hq⟩
  ·obtain⟨hsp,hln⟩:=j8m hok hww
   have hps:=ClV.wrs (j2b hok hww).1
   walk_at "v"
   refine⟨_,_,_,rfl,hln.asc,by have:=hln.2.2;omega,hsp,fun t q H1 q1 q2 e1=>?_⟩
   rw[hps] at q2
   have hW1:=RS.woE e1 hW
   walk_at "v"
   refine j11 q1 rfl ?_
   walk_at "v"
   refine j6n ?_
   rw[show decide (askS=Str.ofString "ask")=true from decide_eq_true rfl]
   walk_at "v"
   cases g with
   | line ns =>
    have hwd:wd=Str.ofString "line":=hwd
    obtain⟨x,rfl,w0,w1⟩:=hww
    skip
    refine j0b ?_
    rw[show decide (wd=Str.ofString "ways")=false by rw[hwd];decide]
    walk_at "v"
    refine j11 q1 rfl ?_
    walk_at "v"
    refine j0m q2 ?_
    walk_at "v"
    refine j11 q1 rfl ?_
    walk_at "v"
    refine j11 q2 rfl ?_
    walk_at "v"
    refine j1w ?_
    obtain⟨dw,kw⟩:=hW1
    walk_at "v"
    refine⟨_,.int x,.int,rfl,rfl,?_⟩
    rw[show plc (.int x)=true by show decide ((x.natAbs:Int)≤1000000000000000000)=true;exact decide_eq_true (by omega)]
    walk_at "v"
    exact hq _ H1 rfl e1
   | shelf ss =>
    have hwd:wd=Str.ofString "shelf":=hwd
    obtain⟨x,rfl,hx⟩:=hww
    skip
    refine j0b ?_
    rw[show decide (wd=Str.ofString "ways")=false by rw[hwd];decide]
    walk_at "v"
    refine j11 q1 rfl ?_
    walk_at "v"
    refine j0m q2 ?_
    walk_at "v"
    refine j11 q1 rfl ?_
    walk_at "v"
    refine j11 q2 rfl ?_
    walk_at "v"
    refine j0k (j1w ?_)
    obtain⟨dw,tp,kw,kt⟩:=hW1
    walk_at "v"
    refine⟨_,_,_,_,_,rfl,kw,kt,ItemOk.nm (hok.nm x hx),fun H2 e2=>?_⟩
    rw[show Ns.wsh (.str x) ss=true by show (nmS x && decide (x∈ss))=true;rw[hok.nm x hx,decide_eq_true hx];rfl]
    walk_at "v"
    exact hq _ H2 rfl (e1.tr e2)
   | hire W =>
    have hwd:wd=Str.ofString "hire":=hwd
    obtain⟨x,rfl,w0,w1⟩:=hww
    obtain⟨W1,W2⟩:=hok
    refine j0b ?_
    rw[show decide (wd=Str.ofString "ways")=false by rw[hwd];decide]
    walk_at "v"
    refine j11 q1 rfl ?_
    walk_at "v"
    refine j0m q2 ?_
    walk_at "v"
    refine j11 q1 rfl ?_
    walk_at "v"
    refine j11 q2 rfl ?_
    walk_at "v"
    refine j0k (j0k (j1w ?_))
    obtain⟨dw,kw⟩:=hW1
    walk_at "v"
    refine⟨_,.int x,.int,rfl,rfl,?_⟩
    rw[show amt (.int x)=true by show (decide (0≤x) && decide (x≤1000000000000000000))=true;rw[decide_eq_true w0,decide_eq_true w1];rfl]
    walk_at "v"
    exact hq _ H1 rfl e1
   | ways n t h =>
    have hwd:wd=Str.ofString "ways":=hwd
    obtain⟨cs,rfl,hcl,hcs⟩:=hww
    skip
    refine j0b ?_
    rw[show decide (wd=Str.ofString "ways")=true by rw[hwd];decide]
    walk_at "v"
    refine j11 q1 rfl ?_
    walk_at "v"
    refine j0k (j0k (j0k (j1w ?_)))
    obtain⟨dw,kw⟩:=hW1
    walk_at "v"
    refine⟨_,_,_,_,.ref q,true,rfl,kw,.inl ⟨q,_,rfl,q2,by show (cs.map V.int).length≤1000;rw[List.length_map];have:=hok.2.1;omega,(fun y hy=>by obtain⟨c,_,rfl⟩:=List.mem_map.mp hy;exact⟨.int,rfl⟩),?_⟩,fun H2 e2=>?_⟩
    ·show Nw.wsh (n:Nat) (cs.map V.int)=true
     unfold Nw.wsh
     rw[List.length_map,hcl,decide_eq_true rfl,Bool.true_and,List.all_map,List.all_eq_true]
     intro c hc
     show (decide (0≤c) && decide (c≤1000000000000000000))=true
     rw[decide_eq_true (hcs c hc).1,decide_eq_true (hcs c hc).2]
     rfl
    walk_at "v"
    exact hq _ H2 ⟨q,rfl,e2 _ _ q2⟩ (e1.tr e2)
   | store ss =>
    have hwd:wd=Str.ofString "store":=hwd
    obtain⟨x,rfl,hx⟩:=hww
    skip
    refine j0b ?_
    rw[show decide (wd=Str.ofString "ways")=false by rw[hwd];decide]
    walk_at "v"
    refine j11 q1 rfl ?_
    walk_at "v"
    refine j0m q2 ?_
    walk_at "v"
    refine j11 q1 rfl ?_
    walk_at "v"
    refine j11 q2 rfl ?_
    walk_at "v"
    refine j0k (j0k (j0k (j0k (j1w ?_))))
    obtain⟨dw,kw⟩:=hW1
    walk_at "v"
    refine⟨_,_,rfl,ItemOk.nm hx,fun H2 e2=>?_⟩
    rw[show nmV (.str x)=true from hx]
    walk_at "v"
    exact hq _ H2 rfl (e1.tr e2)
   | bags R =>
    have hwd:wd=Str.ofString "bags":=hwd
    obtain⟨x,rfl,w0,w1⟩:=hww
    obtain⟨R1,R2⟩:=hok
    refine j0b ?_
    rw[show decide (wd=Str.ofString "ways")=false by rw[hwd];decide]
    walk_at "v"
    refine j11 q1 rfl ?_
    walk_at "v"
    refine j0m q2 ?_
    walk_at "v"
    refine j11 q1 rfl ?_
    walk_at "v"
    refine j11 q2 rfl ?_
    walk_at "v"
    refine j0k (j0k (j0k (j0k (j0k ?_))))
    obtain⟨dw,kw⟩:=hW1
    walk_at "v"
    refine⟨_,_,R,.int x,.int,rfl,kw,rfl,?_⟩
    rw[show fot R (.int x)=true by show (decide (1≤x) && decide (x≤R))=true;rw[decide_eq_true w0,decide_eq_true w1];rfl]
    walk_at "v"
    exact hq _ H1 rfl e1
  ·have hwa:=j4x (c0:=32) ha (show z.length≤1000000 by omega)
   have hln:=split_le z ⟨#[32]⟩
   have hfl:∀ x∈ws.map wrV,FlV x:=fun x hx=>by
    obtain⟨y,hy,rfl⟩:=List.mem_map.mp hx
    have hm:y∈Txt.split z ⟨#[32]⟩:=by rw[hs];exact List.mem_cons_of_mem _ hy
    exact wr_fl (hwa y hm).1 (Nat.le_trans (part_short hm) (by omega))
   have hxl:(ws.map wrV).length≤1000:=by rw[hs,List.length_cons] at hln;rw[List.length_map];omega
   walk_at "v"
   refine⟨z,w0,ws,rfl,ha,by omega,hs,fun t q H1 q1 q2 e1=>?_⟩
   generalize ws.map wrV=xs at *
   have hW1:=RS.woE e1 hW
   walk_at "v"
   refine j11 q1 rfl ?_
   walk_at "v"
   refine j6n ?_
   by_cases h0:w0=askS
   ·subst h0
    have hb:wiB g xs=false:=hno.elim (fun z=>absurd rfl z) id
    rw[show decide (askS=Str.ofString "ask")=true from decide_eq_true rfl]
    walk_at "v"
    cases g with
    | line ns =>
     have hwd:wd=Str.ofString "line":=hwd
     refine j0b ?_
     rw[show decide (wd=Str.ofString "ways")=false by rw[hwd];decide]
     obtain⟨dw,kw⟩:=hW1
     walk_at "v"
     refine j11 q1 rfl ?_
     walk_at "v"
     refine j0m q2 ?_
     walk_at "v"
     by_cases h1:xs.length=1
     ·obtain⟨x,rfl⟩:∃ x,xs=[x]:=by
       cases xs with
       | nil=>cases h1
       | cons x r=>cases r with
        | nil=>exact⟨x,rfl⟩
        | cons y r=>simp at h1
      rw[show decide ((([x]:List V).length:Int)=1)=true from rfl]
      walk_at "v"
      refine j11 q1 rfl ?_
      walk_at "v"
      refine j11 q2 rfl ?_
      walk_at "v"
      refine j1w ?_
      walk_at "v"
      obtain⟨kx,hkx⟩:=(hfl x List.mem_cons_self).hk (H:=H1)
      refine⟨_,x,kx,rfl,hkx,?_⟩
      rw[show plc x=false from hb]
      walk_at "v"
      exact hq H1 e1
     ·rw[decide_eq_false (show ¬ (xs.length:Int)=1 by omega)]
      walk_at "v"
      refine j1w ?_
      walk_at "v"
      refine⟨_,.non,.non,rfl,rfl,?_⟩
      rw[show plc .non=false from rfl]
      walk_at "v"
      exact hq H1 e1
    | shelf ss =>
     have hwd:wd=Str.ofString "shelf":=hwd
     refine j0b ?_
     rw[show decide (wd=Str.ofString "ways")=false by rw[hwd];decide]
     obtain⟨dw,tp,kw,kt⟩:=hW1
     walk_at "v"
     refine j11 q1 rfl ?_
     walk_at "v"
     refine j0m q2 ?_
     walk_at "v"
     by_cases h1:xs.length=1
     ·obtain⟨x,rfl⟩:∃ x,xs=[x]:=by
       cases xs with
       | nil=>cases h1
       | cons x r=>cases r with
        | nil=>exact⟨x,rfl⟩
        | cons y r=>simp at h1
      rw[show decide ((([x]:List V).length:Int)=1)=true from rfl]
      walk_at "v"
      refine j11 q1 rfl ?_
      walk_at "v"
      refine j11 q2 rfl ?_
      walk_at "v"
      refine j0k (j1w ?_)
      walk_at "v"
      refine⟨_,_,_,_,x,rfl,kw,kt,(hfl x List.mem_cons_self).item,fun H2 e2=>?_⟩
      rw[show Ns.wsh x ss=false from hb]
      walk_at "v"
      exact hq H2 (e1.tr e2)
     ·rw[decide_eq_false (show ¬ (xs.length:Int)=1 by omega)]
      walk_at "v"
      refine j0k (j1w ?_)
      walk_at "v"
      refine⟨_,_,_,_,.non,rfl,kw,kt,ItemOk.flat (k:=.non) rfl (fun z e=>by cases e),fun H2 e2=>?_⟩
      rw[show Ns.wsh .non ss=false from rfl]
      walk_at "v"
      exact hq H2 (e1.tr e2)
    | hire W =>
     have hwd:wd=Str.ofString "hire":=hwd
     refine j0b ?_
     rw[show decide (wd=Str.ofString "ways")=false by rw[hwd];decide]
     obtain⟨dw,kw⟩:=hW1
     walk_at "v"
     refine j11 q1 rfl ?_
     walk_at "v"
     refine j0m q2 ?_
     walk_at "v"
     by_cases h1:xs.length=1
     ·obtain⟨x,rfl⟩:∃ x,xs=[x]:=by
       cases xs with
       | nil=>cases h1
       | cons x r=>cases r with
        | nil=>exact⟨x,rfl⟩
        | cons y r=>simp at h1
      rw[show decide ((([x]:List V).length:Int)=1)=true from rfl]
      walk_at "v"
      refine j11 q1 rfl ?_
      walk_at "v"
      refine j11 q2 rfl ?_
      walk_at "v"
      refine j0k (j0k (j1w ?_))
      walk_at "v"
      obtain⟨kx,hkx⟩:=(hfl x List.mem_cons_self).hk (H:=H1)
      refine⟨_,x,kx,rfl,hkx,?_⟩
      rw[show amt x=false from hb]
      walk_at "v"
      exact hq H1 e1
     ·rw[decide_eq_false (show ¬ (xs.length:Int)=1 by omega)]
      walk_at "v"
      refine j0k (j0k (j1w ?_))
      walk_at "v"
      refine⟨_,.non,.non,rfl,rfl,?_⟩
      rw[show amt .non=false from rfl]
      walk_at "v"
      exact hq H1 e1
    | ways n t h =>
     have hwd:wd=Str.ofString "ways":=hwd
     refine j0b ?_
     rw[show decide (wd=Str.ofString "ways")=true by rw[hwd];decide]
     obtain⟨dw,kw⟩:=hW1
     walk_at "v"
     refine j11 q1 rfl ?_
     walk_at "v"
     refine j0k (j0k (j0k (j1w ?_)))
     walk_at "v"
     refine⟨_,_,_,_,.ref q,false,rfl,kw,.inl ⟨q,xs,rfl,q2,hxl,fun y hy=>(hfl y hy).hk,hb⟩,fun H2 e2=>?_⟩
     walk_at "v"
     exact hq H2 (e1.tr e2)
    | store ss =>
     have hwd:wd=Str.ofString "store":=hwd
     refine j0b ?_
     rw[show decide (wd=Str.ofString "ways")=false by rw[hwd];decide]
     obtain⟨dw,kw⟩:=hW1
     walk_at "v"
     refine j11 q1 rfl ?_
     walk_at "v"
     refine j0m q2 ?_
     walk_at "v"
     by_cases h1:xs.length=1
     ·obtain⟨x,rfl⟩:∃ x,xs=[x]:=by
       cases xs with
       | nil=>cases h1
       | cons x r=>cases r with
        | nil=>exact⟨x,rfl⟩
        | cons y r=>simp at h1
      rw[show decide ((([x]:List V).length:Int)=1)=true from rfl]
      walk_at "v"
      refine j11 q1 rfl ?_
      walk_at "v"
      refine j11 q2 rfl ?_
      walk_at "v"
      refine j0k (j0k (j0k (j0k (j1w ?_))))
      walk_at "v"
      refine⟨_,x,rfl,(hfl x List.mem_cons_self).item,fun H2 e2=>?_⟩
      rw[show nmV x=false from hb]
      walk_at "v"
      exact hq H2 (e1.tr e2)
     ·rw[decide_eq_false (show ¬ (xs.length:Int)=1 by omega)]
      walk_at "v"
      refine j0k (j0k (j0k (j0k (j1w ?_))))
      walk_at "v"
      refine⟨_,.non,rfl,ItemOk.flat (k:=.non) rfl (fun z e=>by cases e),fun H2 e2=>?_⟩
      rw[show nmV .non=false from rfl]
      walk_at "v"
      exact hq H2 (e1.tr e2)
    | bags R =>
     have hwd:wd=Str.ofString "bags":=hwd
     refine j0b ?_
     rw[show decide (wd=Str.ofString "ways")=false by rw[hwd];decide]
     obtain⟨dw,kw⟩:=hW1
     walk_at "v"
     refine j11 q1 rfl ?_
     walk_at "v"
     refine j0m q2 ?_
     walk_at "v"
     by_cases h1:xs.length=1
     ·obtain⟨x,rfl⟩:∃ x,xs=[x]:=by
       cases xs with
       | nil=>cases h1
       | cons x r=>cases r with
        | nil=>exact⟨x,rfl⟩
        | cons y r=>simp at h1
      rw[show decide ((([x]:List V).length:Int)=1)=true from rfl]
      walk_at "v"
      refine j11 q1 rfl ?_
      walk_at "v"
      refine j11 q2 rfl ?_
      walk_at "v"
      refine j0k (j0k (j0k (j0k (j0k ?_))))
      walk_at "v"
      obtain⟨kx,hkx⟩:=(hfl x List.mem_cons_self).hk (H:=H1)
      refine⟨_,_,R,x,kx,rfl,kw,hkx,?_⟩
      rw[show fot R x=false from hb]
      walk_at "v"
      exact hq H1 e1
     ·rw[decide_eq_false (show ¬ (xs.length:Int)=1 by omega)]
      walk_at "v"
      refine j0k (j0k (j0k (j0k (j0k ?_))))
      walk_at "v"
      refine⟨_,_,R,.non,.non,rfl,kw,rfl,?_⟩
      rw[show fot R .non=false from rfl]
      walk_at "v"
      exact hq H1 e1
   ·rw[show decide (w0=Str.ofString "ask")=false from decide_eq_false h0]
    walk_at "v"
    exact hq H1 e1
def BadA (g:G83) (ws:List W83) (z:Str):Prop:=(AscS z∧z.length≤900∧NoAsk g z)∨(ws.length=200∧∃ ww,z=lnW ww∧g.rs.okW ww)
def j44 (a:Adr):Sp:=fun vs H Q E=>∃ (g:G83) (wd:Str) (pw rp:Addr) (ws:List W83) (rs:List (Nat × Str)) (ys:List V),vs=[.str wd,.ref pw,.ref rp]∧wd=g.word∧g.ok∧g.rs.wo a H pw∧(∀ w∈ws,g.rs.okW w)∧ws.length≤200∧H rp=some (.lst ys)∧RwAt H rs ys∧((rs.map (·.2)=ws.map lnW∧∀ l wvs H',H l=none→H' l=some (.lst wvs)→AllW H' ws wvs→Ext H H'→Q (.ref l) H') ∨
 ∃ rg n z rs',rs=rg++(n,z) :: rs'∧rg.map (·.2)=ws.map lnW∧BadA g ws z∧∀ d H',Ext H H'→H' d=some (.xd [("row",.int (n:Nat))])→E (.ref a.c_NoText) (some d) H')
theorem j45 (T:Txt w K mg a):FnOk P w K mg base (CXU P w) 5 a.f_z19 a.d_z19 ["word","world","rows"] (j44 a):=by
 refine T.F_z19.okX ja9 (fun vs H Q E h=>?_) (fun cdv A outer s H vs Q E hr h=>?_)
 ·obtain⟨g,wd,pw,rp,ws,rs,ys,rfl,hwd,hok,hW,hws,hl,hr0,hrw,h⟩:=h
  rfl
 ·obtain⟨g,wd,pw,rp,ws,rs,ys,rfl,hwd,hok,hW,hws,hl,hr0,hrw,h⟩:=h
  refine⟨_,(j02 (j0l (i:=3) ja9.nd rfl (by first | exact Or.inl rfl | exact Or.inr rfl) (j0o j01))
   (j02 (j86 (passX j3w) rfl (j5c (pv 2)) (j8w rfl (j1n (j0p (i:=4) ja9.nd rfl (by first | exact Or.inl rfl | exact Or.inr rfl)) (j1n (j0p (i:=5) ja9.nd rfl (by first | exact Or.inl rfl | exact Or.inr rfl)) j5b))) (j02 (j0l (i:=6) ja9.nd rfl (by first | exact Or.inl rfl | exact Or.inr rfl) (j09 (j5u T) (hr.mono (by decide)) (by rfl) T.m_z34 T.F_z34.kp T.b_z34 .nil j0i (j00 (pv 0) (j00 (pv 1) (j00 (pv 5) j01)))))
   (j02 (j12 (PW.pt (j58 (j0h oIsN (pv 6) j6b (j0j _)) (j2a (j0h (oEq hr) (j08 j24 (by rfl) T.n_len PySem.boot_len (j00 (pv 3) j01)) (j1j (v:=V.int 200) (by rfl) T.m_MOST_ASKS ⟨_,rfl⟩) (j0j _))))) (j03 (j19 j3w rfl (je7 (T.ek_NoText.em (.inr ⟨_,rfl⟩)) (j0g T) (hr.mono (by decide)) (by rfl) T.m_NoText T.b_z3 .nil j0i (j00 (pv 4) j01)))) j0d)
   (j03 (j2i (jjc PySem.F.plainAttrs_list PySem.F.slot_list_append PySem.F.type_list_append j39 (pv 3) (j00 (pv 6) j01)))))))
   (j03 (j0c (pv 3))))),?_⟩
  have ly:=hrw.len
  obtain⟨rg,rest,hrg,hrs⟩:∃ rg rest,rs=rg++rest∧rg.map (·.2)=ws.map lnW:=by
   rcases h with⟨h,_⟩ | ⟨rg,n,z,rs',h1,h2,_⟩
   ·exact⟨rs,[],by simp,h⟩
   ·exact⟨rg,_,h1,h2⟩
  have lr:rg.length=ws.length:=by have:=congrArg List.length hrs;simpa using this
  walk_at "v"
  intro l H1 n1 q1 e1
  walk_at "v"
  refine⟨rp,rfl,⟨_,SqL.of (e1 _ _ hr0)⟩,j6d (xs:=ys) (fun i σ H2=>∃ (u1 u2 u3:Option V) (wvs:List V),σ=[some (.str wd),some (.ref pw),some (.ref rp),some (.ref l),u1,u2,u3]∧i≤ws.length∧Ext H H2∧H2 l=some (.lst wvs)∧AllW H2 (ws.take i) wvs) ⟨none,none,none,[],rfl,Nat.zero_le _,e1,q1,trivial⟩ (fun i σ H2 _ h=>by obtain⟨_,_,_,_,_,_,x,_⟩:=h;exact SqL.of (x _ _ hr0)) ?_ ?_⟩
  ·rintro i x σ H2 hx ⟨u1,u2,u3,wvs,rfl,hil,x2,q2,aw⟩
   obtain⟨⟨n,z⟩,ta,hp,rfl,hta⟩:=RwAt.get hrw hx
   have hta3:H2 ta=some (.tup [.int (n:Nat),.str z]):=x2 _ _ hta
   have lwv:=aw.len
   by_cases hi:i < ws.length
   ·have hz:z=lnW ws[i]:=by
     have e:=congrArg (fun l=>l[i]?) hrs
     rw[hrg,List.getElem?_append_left (by omega)] at hp
     simp only[List.getElem?_map,hp,List.getElem?_eq_getElem hi] at e
     simpa using e
    have okx:=hws _ (List.getElem_mem hi)
    have etk:ws.take (i+1)=ws.take i++[ws[i]]:=by rw[List.take_succ,List.getElem?_eq_getElem hi];rfl
    subst hz
    generalize ws[i]=ww at *
    walk_at "v"
    refine⟨g,wd,pw,_,rfl,hwd,hok,RS.woE x2 hW,.inl ⟨ww,rfl,okx,fun v H3 a3 e3=>?_⟩⟩
    have hv:v≠.non:=by
     cases ww with
     | i z=>rw[show v=.int z from a3];simp
     | s z=>rw[show v=.str z from a3];simp
     | l cs=>obtain⟨q,rfl,_⟩:=a3;simp
    walk_at "v"
    rw[decide_eq_false hv]
    walk_at "v"
    refine j10 (e3 _ _ q2) ?_
    walk_at "v"
    rw[decide_eq_false (show ¬ (wvs.length:Int)=200 by rw[lwv,List.length_take];omega)]
    walk_at "v"
    refine j6l (e3 _ _ q2) (by rw[lwv,List.length_take];omega) fun H4 q4 b4=>?_
    refine⟨_,_,_,wvs++[v],rfl,hi,Ext.but (x2.tr e3) b4 n1,q4,?_⟩
    rw[etk]
    have tk:∀ p xs,H3 p=some (.tup xs)→H4 p=some (.tup xs):=fun p xs hh=>b4 _ _ (fun z=>by rw[z,e3 _ _ q2] at hh;cases hh) hh
    exact (AllW.snoc a3 (aw.mono fun _ _ zz=>e3 _ _ zz)).mono tk
   ·have hi':i=ws.length:=by omega
    subst hi'
    rcases h with⟨h,_⟩ | ⟨rg',n',z',rs',h1,h2,hbad,hn⟩
    ·have:rs.length=ws.length:=by have:=congrArg List.length h;simpa using this
     rw[List.getElem?_eq_none (by omega)] at hp
     cases hp
    ·have lr':rg'.length=ws.length:=by have:=congrArg List.length h2;simpa using this
     rw[h1,List.getElem?_append_right (by omega),lr',Nat.sub_self] at hp
     cases hp
     rcases hbad with⟨ha,hzl,hno⟩ | ⟨h200,ww,rfl,hww⟩
     ·walk_at "v"
      refine⟨g,wd,pw,_,rfl,hwd,hok,RS.woE x2 hW,.inr ⟨ha,hzl,hno,fun H3 e3=>?_⟩⟩
      walk_at "v"
      exact j3h T.ek_NoText (.inr ⟨_,rfl⟩) fun d H' _ q3 e4=>hn d H' (x2.tr (e3.tr e4)) q3
     ·walk_at "v"
      refine⟨g,wd,pw,_,rfl,hwd,hok,RS.woE x2 hW,.inl ⟨ww,rfl,hww,fun v H3 a3 e3=>?_⟩⟩
      have hv:v≠.non:=by
       cases ww with
       | i z=>rw[show v=.int z from a3];simp
       | s z=>rw[show v=.str z from a3];simp
       | l cs=>obtain⟨q,rfl,_⟩:=a3;simp
      walk_at "v"
      rw[decide_eq_false hv]
      walk_at "v"
      refine j10 (e3 _ _ q2) ?_
      walk_at "v"
      rw[decide_eq_true (show (wvs.length:Int)=200 by rw[lwv,List.length_take];omega)]
      walk_at "v"
      exact j3h T.ek_NoText (.inr ⟨_,rfl⟩) fun d H' _ q3 e4=>hn d H' (x2.tr (e3.tr e4)) q3
  ·rintro σ H2 ⟨u1,u2,u3,wvs,rfl,hil,x2,q2,aw⟩
   rcases h with⟨h,hq⟩ | ⟨rg',n',z',rs',h1,h2,_⟩
   ·have:rs.length=ws.length:=by have:=congrArg List.length h;simpa using this
    rw[ly,this,List.take_length] at aw
    walk_at "v"
    exact hq l wvs H2 n1 q2 aw x2
   ·have lr':rg'.length=ws.length:=by have:=congrArg List.length h2;simpa using this
    rw[ly,h1,List.length_append,List.length_cons] at hil
    omega
namespace Nb
def sp_Rule_state (a:Adr):Sp:=fun vs H Q _=>∃ (r:Addr) (R z:Int) (ps ss:List Int),vs=[.ref r]∧BagAt a H r R ps ss z∧∀ st,H st=some (.tup (ss.map V.int))→Q (.ref st) H
theorem ok_Rule_state (T:Txt w K mg a):FnOk P w K mg base (CXU P w) 1 a.f_z31 a.d_z31 ["self"] (sp_Rule_state a):=by
 refine T.F_z31.okU j8j (fun vs H Q E h=>?_) (fun cdv A outer s H vs Q E hr h=>?_)
 ·obtain⟨r,R,z,ps,ss,rfl,hB,hq⟩:=h
  rfl
 ·obtain⟨r,R,z,ps,ss,rfl,hB,hq⟩:=h
  have zc_Both:=T.cl_Both
  have zn_Both_standing:=T.na_Both_standing
  have zc_Buyer:=T.cl_Buyer
  have zn_Buyer_standing:=T.na_Buyer_standing
  have zc_Changer:=T.cl_Changer
  have zn_Changer_standing:=T.na_Changer_standing
  have zc_Filler:=T.cl_Filler
  have zn_Filler_standing:=T.na_Filler_standing
  have zc_Front:=T.cl_Front
  have zn_Front_standing:=T.na_Front_standing
  have zc_Keeper:=T.cl_Keeper
  have zn_Keeper_standing:=T.na_Keeper_standing
  refine⟨_,(j03 (j0c (j2d (pv 0) rfl))),?_⟩
  obtain⟨dx,wo,dw,st,q,h1,h2,h3,h4⟩:=hB.ex
  walk_at "v"
  exact hq st h3
end Nb
namespace Nk
def sp_Rule_state (a:Adr):Sp:=fun vs H Q _=>∃ (r:Addr) (row:List Str) (z:Int),vs=[.ref r]∧KeepAt a H r row z∧∀ st (ss:List Str),ss.Perm row→sortedS ss=true→H st=some (.tup (ss.map V.str))→Q (.ref st) H
theorem ok_Rule_state (T:Txt w K mg a):FnOk P w K mg base (CXU P w) 1 a.f_z31 a.d_z31 ["self"] (sp_Rule_state a):=by
 refine T.F_z31.okU j8j (fun vs H Q E h=>?_) (fun cdv A outer s H vs Q E hr h=>?_)
 ·obtain⟨r,row,z,rfl,hB,hq⟩:=h
  rfl
 ·obtain⟨r,row,z,rfl,hB,hq⟩:=h
  have zc_Both:=T.cl_Both
  have zn_Both_standing:=T.na_Both_standing
  have zc_Buyer:=T.cl_Buyer
  have zn_Buyer_standing:=T.na_Buyer_standing
  have zc_Changer:=T.cl_Changer
  have zn_Changer_standing:=T.na_Changer_standing
  have zc_Filler:=T.cl_Filler
  have zn_Filler_standing:=T.na_Filler_standing
  have zc_Front:=T.cl_Front
  have zn_Front_standing:=T.na_Front_standing
  have zc_Keeper:=T.cl_Keeper
  have zn_Keeper_standing:=T.na_Keeper_standing
  refine⟨_,(j03 (j0c (j2d (pv 0) rfl))),?_⟩
  obtain⟨dx,wo,dw,st,q,ss,k⟩:=hB.ex
  have h1:=k.hr
  walk_at "v"
  exact hq st ss k.pm k.so k.hs
end Nk
namespace Nw
def sp_Rule_state (a:Adr):Sp:=fun vs H Q _=>∃ (r:Addr) (ns:List Int) (h t z:Int),vs=[.ref r]∧WaysAt a H r ns h t z∧Q (.int h) H
theorem ok_Rule_state (T:Txt w K mg a):FnOk P w K mg base (CXU P w) 1 a.f_z31 a.d_z31 ["self"] (sp_Rule_state a):=by
 refine T.F_z31.okU j8j (fun vs H Q E h=>?_) (fun cdv A outer s H vs Q E hr h=>?_)
 ·obtain⟨r,ns,h,t,z,rfl,hB,hq⟩:=h
  rfl
 ·obtain⟨r,ns,h,t,z,rfl,hB,hq⟩:=h
  have zc_Both:=T.cl_Both
  have zn_Both_standing:=T.na_Both_standing
  have zc_Buyer:=T.cl_Buyer
  have zn_Buyer_standing:=T.na_Buyer_standing
  have zc_Changer:=T.cl_Changer
  have zn_Changer_standing:=T.na_Changer_standing
  have zc_Filler:=T.cl_Filler
  have zn_Filler_standing:=T.na_Filler_standing
  have zc_Front:=T.cl_Front
  have zn_Front_standing:=T.na_Front_standing
  have zc_Keeper:=T.cl_Keeper
  have zn_Keeper_standing:=T.na_Keeper_standing
  refine⟨_,(j03 (j0c (j2d (pv 0) rfl))),?_⟩
  obtain⟨dx,wo,dw,q,h1,h2,h3⟩:=hB.ex
  walk_at "v"
  exact hq
end Nw
namespace Nh
def sp_Rule_state (a:Adr):Sp:=fun vs H Q _=>∃ r W st z,vs=[.ref r]∧BuyAt a H r W st z∧Q (.int st) H
theorem ok_Rule_state (T:Txt w K mg a):FnOk P w K mg base (CXU P w) 1 a.f_z31 a.d_z31 ["self"] (sp_Rule_state a):=by
 refine T.F_z31.okU j8j (fun vs H Q E h=>?_) (fun cdv A outer s H vs Q E hr h=>?_)
 ·obtain⟨r,W,st,z,rfl,hB,hq⟩:=h
  rfl
 ·obtain⟨r,W,st,z,rfl,hB,hq⟩:=h
  have zc_Both:=T.cl_Both
  have zn_Both_standing:=T.na_Both_standing
  have zc_Buyer:=T.cl_Buyer
  have zn_Buyer_standing:=T.na_Buyer_standing
  have zc_Changer:=T.cl_Changer
  have zn_Changer_standing:=T.na_Changer_standing
  have zc_Filler:=T.cl_Filler
  have zn_Filler_standing:=T.na_Filler_standing
  have zc_Front:=T.cl_Front
  have zn_Front_standing:=T.na_Front_standing
  have zc_Keeper:=T.cl_Keeper
  have zn_Keeper_standing:=T.na_Keeper_standing
  refine⟨_,(j03 (j0c (j2d (pv 0) rfl))),?_⟩
  obtain⟨dx,wo,dw,h2,h3⟩:=hB.ex
  walk_at "v"
  exact hq
end Nh
namespace Ns
def sp_Rule_state (a:Adr):Sp:=fun vs H Q _=>∃ (r:Addr) (ss ts:List Str) (z:Int),vs=[.ref r]∧ShelfAt a H r ss ts z∧∀ st,H st=some (.tup (ss.map V.str))→Q (.ref st) H
theorem ok_Rule_state (T:Txt w K mg a):FnOk P w K mg base (CXU P w) 1 a.f_z31 a.d_z31 ["self"] (sp_Rule_state a):=by
 refine T.F_z31.okU j8j (fun vs H Q E h=>?_) (fun cdv A outer s H vs Q E hr h=>?_)
 ·obtain⟨r,ss,ts,z,rfl,hB,hq⟩:=h
  rfl
 ·obtain⟨r,ss,ts,z,rfl,hB,hq⟩:=h
  have zc_Both:=T.cl_Both
  have zn_Both_standing:=T.na_Both_standing
  have zc_Buyer:=T.cl_Buyer
  have zn_Buyer_standing:=T.na_Buyer_standing
  have zc_Changer:=T.cl_Changer
  have zn_Changer_standing:=T.na_Changer_standing
  have zc_Filler:=T.cl_Filler
  have zn_Filler_standing:=T.na_Filler_standing
  have zc_Front:=T.cl_Front
  have zn_Front_standing:=T.na_Front_standing
  have zc_Keeper:=T.cl_Keeper
  have zn_Keeper_standing:=T.na_Keeper_standing
  refine⟨_,(j03 (j0c (j2d (pv 0) rfl))),?_⟩
  obtain⟨dx,wo,dw,st,tp,h1,h2,h3,h4⟩:=hB.ex
  walk_at "v"
  exact hq st h3
end Ns
namespace Nl
def sp_Rule_state (a:Adr):Sp:=fun vs H Q _=>∃ (r:Addr) (ns:List Int) (z:Int),vs=[.ref r]∧LineAt a a.c_Both H r ns z∧∀ st,H st=some (.tup (ns.map V.int))→Q (.ref st) H
theorem ok_Rule_state (T:Txt w K mg a):FnOk P w K mg base (CXU P w) 1 a.f_z31 a.d_z31 ["self"] (sp_Rule_state a):=by
 refine T.F_z31.okU j8j (fun vs H Q E h=>?_) (fun cdv A outer s H vs Q E hr h=>?_)
 ·obtain⟨r,ns,z,rfl,hB,hq⟩:=h
  rfl
 ·obtain⟨r,ns,z,rfl,hB,hq⟩:=h
  have zc_Both:=T.cl_Both
  have zn_Both_standing:=T.na_Both_standing
  have zc_Buyer:=T.cl_Buyer
  have zn_Buyer_standing:=T.na_Buyer_standing
  have zc_Changer:=T.cl_Changer
  have zn_Changer_standing:=T.na_Changer_standing
  have zc_Filler:=T.cl_Filler
  have zn_Filler_standing:=T.na_Filler_standing
  have zc_Front:=T.cl_Front
  have zn_Front_standing:=T.na_Front_standing
  have zc_Keeper:=T.cl_Keeper
  have zn_Keeper_standing:=T.na_Keeper_standing
  refine⟨_,(j03 (j0c (j2d (pv 0) rfl))),?_⟩
  obtain⟨dx,wo,dw,st,h1,h2,h3⟩:=hB.ex
  walk_at "v"
  exact hq st h3
end Nl
namespace Nb
def j3n (a:Adr):Sp:=fun vs H Q _=>∃ (w p:Addr),vs=[.ref w,.ref p]∧H p=some (.tup [])∧∀ H',Ext H H'→Q (.bl true) H'
theorem ok_Bags_is_state (T:Txt w K mg a):FnOk P w K mg base (CXU P w) 3 a.f_z7 a.d_z7 ["self","thing"] (j3n a):=by
 refine T.F_z7.okU sc_z7 (fun vs H Q E h=>?_) (fun cdv A outer s H vs Q E hr h=>?_)
 ·obtain⟨w,p,rfl,hp,hq⟩:=h
  rfl
 ·obtain⟨w,p,rfl,hp,hq⟩:=h
  have zc_Bags:=T.cl_Bags
  have zn_Bags_room:=T.na_Bags_room
  refine⟨_,(j02 (j12 (PW.pt (j58 (j0w (ptT (j08 j59 (by rfl) T.n_isinstance PyProof.Rows.boot_isinstance (j00 (pv 1) (j00 (j17 (v:=V.ty "tuple") (by rfl) T.n_tuple PyProof.Rows.boot_tuple rfl) j01))) (fun _=>rfl))) (j2a (j0h op_gt (j08 j24 (by rfl) T.n_len PySem.boot_len (j00 (pv 1) j01)) (j1j (v:=V.int 500) (by rfl) T.m_MOST_BAGS ⟨_,rfl⟩) (j0j _))))) (j03 (j0c j4c)) j0d)
   (j02 (j12 (j0w (ptT (j08 (cAll rfl) (by rfl) T.n_all PyProof.Rows.boot_all (j00 (j1r (["load"]:List Str) (["self"]:List Str) [0] rfl ⟨rfl,by decide +kernel,by decide +kernel,by rfl,⟨⟨rfl,by first | exact Or.inl rfl | exact Or.inr rfl,by first | exact Or.inl rfl | exact Or.inr rfl⟩,trivial⟩⟩ (j8z (pv 1)) (fun _ _ _ _=>⟨(j0p (i:=0) (by show ((["load"]:List Str)++(["self"]:List Str)).Nodup;decide +kernel) rfl (by first | exact Or.inl rfl | exact Or.inr rfl)),(show PTs _ [] [] from trivial),(j09 (j1i T) (hr.mono (by decide)) (by rfl) T.m_z6 T.F_z6.kp T.b_z6 .nil j0i (j00 (pv 0) (j00 (j2d (pv 1) rfl) j01)))⟩)) j01)) (fun _=>rfl))) (j03 (j0c j4c)) j0d)
   (j03 (j0c (j1l (oEq hr) (j0n jea (by rfl) T.n_list PyProof.Rows.boot_list (j00 (pv 1) j01)) (j08 j6o (by rfl) T.n_sorted PyProof.Rows.boot_sorted (j00 (pv 1) j01)) (j0j _)))))),?_⟩
  have hp':H p=some (.tup (([]:List Int).map V.int)):=hp
  walk_at "v"
  refine j69 (HasK.t hp) ?_
  walk_at "v"
  refine j0m hp ?_
  walk_at "v"
  refine⟨p,rfl,⟨_,SqT.of hp'⟩,fun acc hn _ _ _ _=>j3a V.int V.bl (fun _=>true) (SqT.of hp') (by decide) hn (fun i x H2 Y hx e hY=>by cases hx) fun H2 e ha=>?_⟩
  walk_at "v"
  refine jd0 (bs:=[]) ha ?_
  walk_at "v"
  refine j33 (e _ _ hp) fun l H3 n3 h3 e3=>?_
  walk_at "v"
  refine jep (ns:=[]) (e3 _ _ (e _ _ hp')) (by decide) fun l2 ns' H4 n4 hpm hs h4 e4=>?_
  cases hpm.eq_nil
  walk_at "v"
  refine jek (ns:=[]) (ms:=[]) (e4 _ _ h3) h4 ?_
  exact hq H4 ((e.tr e3).tr e4)
end Nb
namespace Nb
def sp_Rule_init (a:Adr):Sp:=fun vs H Q _=>∃ (x dx w dw p:Addr) (R:Int),vs=[.ref x,.ref w,.ref p]∧H x=some (.ins a.c_Filler dx [])∧H w=some (.ins a.c_Bags dw [("room",.int R)])∧H p=some (.tup [])∧∀ H',H' x=some (.ins a.c_Filler dx [("world",.ref w),("standing",.ref p),("spent",.int 0)])→But x H H'→Q .non H'
theorem ok_Rule_init (T:Txt w K mg a):FnOk P w K mg base (CXU P w) 4 a.f_z43 a.d_z43 ["self","world","start"] (sp_Rule_init a):=by
 refine T.F_z43.okU j8k (fun vs H Q E h=>?_) (fun cdv A outer s H vs Q E hr h=>?_)
 ·obtain⟨x,dx,w,dw,p,R,rfl,hx,hw,hp,hq⟩:=h
  rfl
 ·obtain⟨x,dx,w,dw,p,R,rfl,hx,hw,hp,hq⟩:=h
  have zc_Both:=T.cl_Both
  have zn_Both_world:=T.na_Both_world
  have zn_Both_standing:=T.na_Both_standing
  have zn_Both_spent:=T.na_Both_spent
  have zc_Buyer:=T.cl_Buyer
  have zn_Buyer_world:=T.na_Buyer_world
  have zn_Buyer_standing:=T.na_Buyer_standing
  have zn_Buyer_spent:=T.na_Buyer_spent
  have zc_Changer:=T.cl_Changer
  have zn_Changer_world:=T.na_Changer_world
  have zn_Changer_standing:=T.na_Changer_standing
  have zn_Changer_spent:=T.na_Changer_spent
  have zc_Filler:=T.cl_Filler
  have zn_Filler_world:=T.na_Filler_world
  have zn_Filler_standing:=T.na_Filler_standing
  have zn_Filler_spent:=T.na_Filler_spent
  have zc_Front:=T.cl_Front
  have zn_Front_world:=T.na_Front_world
  have zn_Front_standing:=T.na_Front_standing
  have zn_Front_spent:=T.na_Front_spent
  have zc_Keeper:=T.cl_Keeper
  have zn_Keeper_world:=T.na_Keeper_world
  have zn_Keeper_standing:=T.na_Keeper_standing
  have zn_Keeper_spent:=T.na_Keeper_spent
  refine⟨_,(j02 (j12 (j0w (ptT (j1z (pv 1) T.cl_Bags T.me_Bags_is_state (Nb.ok_Bags_is_state T) (hr.mono (by decide)) T.b_z7 .nil j0i (j00 (pv 2) j01)) (fun _=>rfl))) (j03 j4l) j0d)
   (j02 (j1b (pv 0) (pv 1) rfl)
   (j02 (j1b (pv 0) (pv 2) rfl)
   (j03 (j1b (pv 0) j05 rfl))))),?_⟩
  walk_at "v"
  refine⟨w,p,rfl,hp,fun H1 e1=>?_⟩
  walk_at "v"
  refine j2r (e1 _ _ hx) T.cl_Filler T.na_Filler_world (j1c rfl) fun H2 h2 b2=>?_
  walk_at "v"
  refine j2r h2 T.cl_Filler T.na_Filler_standing (j1c rfl) fun H3 h3 b3=>?_
  walk_at "v"
  refine j2r h3 T.cl_Filler T.na_Filler_spent (j1c rfl) fun H4 h4 b4=>?_
  exact hq H4 h4 (Ext.toBut e1 (But.tr (But.tr b2 b3) b4))
end Nb
namespace Nb
def j6u (a:Adr):Sp:=fun vs H Q _=>∃ x dx v,vs=[.ref x,v]∧H x=some (.ins a.c_Bags dx [])∧∀ H',H' x=some (.ins a.c_Bags dx [("room",v)])→But x H H'→Q .non H'
theorem ok_Bags_init (T:Txt w K mg a):FnOk P w K mg base (CXU P w) 1 a.f_z39 a.d_z39 ["self","room"] (j6u a):=by
 refine T.F_z39.okU sc_z39 (fun vs H Q E h=>?_) (fun cdv A outer s H vs Q E hr h=>?_)
 ·obtain⟨x,dx,v,rfl,hx,hq⟩:=h
  rfl
 ·obtain⟨x,dx,v,rfl,hx,hq⟩:=h
  have zc_Bags:=T.cl_Bags
  have zn_Bags_room:=T.na_Bags_room
  refine⟨_,(j03 (j1b (pv 0) (pv 1) rfl)),?_⟩
  walk_at "v"
  refine j2r hx T.cl_Bags T.na_Bags_room (j1c rfl) fun H' h1 h2=>?_
  exact hq H' h1 h2
end Nb
namespace Nb
theorem fot_no {i m:Int} (h:¬ (1≤i∧i≤m)):fot m (.int i)=false:=by
 show (decide (1≤i) && decide (i≤m))=false
 rw[Bool.and_eq_false_iff,decide_eq_false_iff_not,decide_eq_false_iff_not]
 omega
theorem fot_yes {i m:Int} (h:1≤i) (h2:i≤m):fot m (.int i)=true:=by
 show (decide (1≤i) && decide (i≤m))=true
 rw[decide_eq_true h,decide_eq_true h2]
 rfl
theorem amt_int:∀ {x:V},amt x=true→∃ i,x=.int i∧0≤i∧i≤1000000000000000000
 | .int i,h=>by
  have h':(decide (0≤i) && decide (i≤1000000000000000000))=true:=h
  rw[Bool.and_eq_true,decide_eq_true_iff,decide_eq_true_iff] at h'
  exact⟨i,rfl,h'.1,h'.2⟩
theorem jhy {x:V} (h:amt x=false):fot 1000000000000000000 x=false:=by
 cases x with
 | int i =>
  have h':(decide (0≤i) && decide (i≤1000000000000000000))=false:=h
  rw[Bool.and_eq_false_iff,decide_eq_false_iff_not,decide_eq_false_iff_not] at h'
  exact fot_no (by omega)
 | _=>rfl
def j50 (a:Adr):Sp:=fun vs H Q E=>∃ (x dx:Addr) (v:V) (k:Kd),vs=[.ref x,v]∧H x=some (.ins a.c_Filler dx [])∧HasK H v k ∧
 (fot 1000000000000000000 v=true→∀ R,v=.int R→∀ H',BagAt a H' x R [] [] 0→But x H H'→Q .non H') ∧
 (fot 1000000000000000000 v=false→∀ d H',Ext H H'→H' d=some (.xd [("row",.non)])→E (.ref a.c_NoState) (some d) H')
theorem ok_Filler_init (T:Txt w K mg a):FnOk P w K mg base (CXU P w) 6 a.f_z23 a.d_z23 ["self","room"] (j50 a):=by
 refine T.F_z23.okX sc_z23 (fun vs H Q E h=>?_) (fun cdv A outer s H vs Q E hr h=>?_)
 ·obtain⟨x,dx,v,k,rfl,hx,hk,hy,hn⟩:=h
  rfl
 ·obtain⟨x,dx,v,k,rfl,hx,hk,hy,hn⟩:=h
  have zc_Filler:=T.cl_Filler
  have zn_Filler_packed:=T.na_Filler_packed
  refine⟨_,(j02 (j12 (PW.pt (j58 (j0w (ptT (j09 (j1k T) (hr.mono (by decide)) (by rfl) T.m_z46 T.F_z46.kp T.b_z46 .nil j0i (j00 (pv 1) j01)) (fun _=>rfl))) (j2a (j0h (oEq hr) (pv 1) j05 (j0j _))))) (j03 (j19 j3w rfl (j32 (T.ek_NoState.em (.inr ⟨_,rfl⟩)) (j0g T) (hr.mono (by decide)) (by rfl) T.m_NoState T.b1_LateError_init T.w_LateError_init j0i))) j0d)
   (j02 (j2i (j2t (C:=a.c_Bound) (j1j (v:=V.ref a.c_Bound) (by rfl) T.m_Bound rfl) T.cm_Bound_init (Nb.ok_Rule_init T) (hr.mono (by decide)) T.b_z43 .nil j0i (j00 (pv 0) (j00 (j20 T.mk_Bags (Nb.ok_Bags_init T) (hr.mono (by decide)) (by rfl) T.m_Bags T.b_z39 .nil j0i (j00 (pv 1) j01)) (j00 (j2e j01) j01)))))
   (j03 (j1b (pv 0) (j0o j01) rfl)))),?_⟩
  walk_at "v"
  refine⟨v,k,rfl,hk,?_⟩
  cases hb:amt v with
  | false =>
   walk_at "v"
   exact j1g T.ek_NoState (.inr ⟨_,rfl⟩) fun d H' _ q1 e1=>hn (jhy hb) d H' e1 q1
  | true =>
  obtain⟨R,rfl,w0,w1⟩:=amt_int hb
  walk_at "v"
  refine iteD (fun h=>?_) (fun h=>?_)
  ·walk_at "v"
   exact j1g T.ek_NoState (.inr ⟨_,rfl⟩) fun d H' _ q1 e1=>hn (fot_no (by omega)) d H' e1 q1
  walk_at "v"
  intro w dw k1 k2 k3
  have nx:w≠x:=(j04 hx k1).symm
  refine⟨w,dw,.int R,rfl,j0a,fun H1 h1' b1=>⟨rfl,?_⟩⟩
  have x1:Ext H H1:=fun b o hb=>b1 b o (j04 hb k1) (by rw[j0e (j04 hb k1),j0e (j04 hb k2)];exact hb)
  walk_at "v"
  intro p2 H2 n2 q2 e2
  walk_at "v"
  refine⟨x,dx,w,dw,p2,R,rfl,e2 _ _ (x1 _ _ hx),e2 _ _ h1',q2,fun H3 h3 b3=>?_⟩
  have np:p2≠x:=(j04 (x1 _ _ hx) n2).symm
  walk_at "v"
  intro p4 H4 n4 q4 e4
  walk_at "v"
  refine j2r (e4 _ _ h3) T.cl_Filler T.na_Filler_packed (j1c rfl) fun H5 h5 b5=>?_
  have n5:p4≠x:=(j04 h3 n4).symm
  refine hy (fot_yes (by omega) w1) R rfl H5 ⟨dx,w,dw,p2,p4,h5,b5 _ _ nx (e4 _ _ (b3 _ _ nx (e2 _ _ h1'))),b5 _ _ np (e4 _ _ (b3 _ _ np q2)),b5 _ _ n5 q4⟩ ?_
  exact Ext.toBut (x1.tr e2) (b3.tr (Ext.toBut e4 b5))
end Nb
def j6v:Sp:=fun vs H Q _=>∃ v,vs=[v]∧((∃ (p:Addr) (ss:List Str),v=.ref p∧H p=some (.tup (ss.map V.str))∧(∀ s∈ss,nmS s=true)∧ss.Nodup∧ss.length≤1000∧∀ H',Ext H H'→Q (.bl true) H')∨(NoNm H v∧∀ H',Ext H H'→Q (.bl false) H'))
theorem j2f (T:Txt w K mg a):FnOk P w K mg base (CXU P w) 2 a.f_z45 a.d_z45 ["thing"] (j6v):=by
 refine T.F_z45.okU sc_z45 (fun vs H Q E h=>?_) (fun cdv A outer s H vs Q E hr h=>?_)
 ·obtain⟨v,rfl,h⟩:=h
  rfl
 ·obtain⟨v,rfl,h⟩:=h
  refine⟨_,(j02 (j12 (PW.pt (j58 (j0w (ptT (j08 j59 (by rfl) T.n_isinstance PyProof.Rows.boot_isinstance (j00 (pv 0) (j00 (j17 (v:=V.ty "tuple") (by rfl) T.n_tuple PyProof.Rows.boot_tuple rfl) j01))) (fun _=>rfl))) (j2a (j0w (ptT (j08 (cAll rfl) (by rfl) T.n_all PyProof.Rows.boot_all (j00 (j1r (["name"]:List Str) ([]:List Str) [] rfl ⟨rfl,by decide +kernel,by decide +kernel,by rfl,trivial⟩ (j8z (pv 0)) (fun _ _ _ _=>⟨(j0p (i:=0) (by show ((["name"]:List Str)++([]:List Str)).Nodup;decide +kernel) rfl (by first | exact Or.inl rfl | exact Or.inr rfl)),(show PTs _ [] [] from trivial),(j09 (j3k T) (hr.mono (by decide)) (by rfl) T.m_z59 T.F_z59.kp T.b_z59 .nil j0i (j00 (pv 0) j01))⟩)) j01)) (fun _=>rfl)))))) (j03 (j0c j4c)) j0d)
   (j03 (j0c (j1l (oEq hr) (jc4 rfl (by rfl) T.n_len (by rfl) T.n_set (j00 (pv 0) j01)) (j08 j24 (by rfl) T.n_len PySem.boot_len (j00 (pv 0) j01)) (j0j _))))),?_⟩
  rcases h with⟨p,ss,rfl,hp,hn',hd,hl,hq⟩ | ⟨⟨k,hk,nk⟩ | ⟨p,xs,rfl,hp,hl,hi,x0,hx0,nx0⟩ | ⟨p,ss,rfl,hp,hl,hn',hd⟩,hq⟩
  ·skip
   walk_at "v"
   refine j69 (HasK.t hp) ?_
   walk_at "v"
   refine⟨p,rfl,⟨_,SqT.of hp⟩,fun acc hn _ _ _ _=>j3a V.str V.bl (fun _=>true) (SqT.of hp) (by omega) hn (fun i x H2 Y hx e hY=>?_) fun H2 e ha=>?_⟩
   ·have hx':=hn' x (List.mem_of_getElem? hx)
    walk_at "v"
    refine⟨.str x,.str,rfl,rfl,fun z ez=>by cases ez;exact⟨j7v hx',by have:=j22 hx';omega⟩,fun H3 e3=>?_⟩
    rw[show nmV (.str x)=true from hx']
    exact hY _ e3
   walk_at "v"
   refine jd0 ha ?_
   have ea:(ss.map fun _=>true).all id=true:=by rw[List.all_eq_true];intro x hx;obtain⟨_,_,rfl⟩:=List.mem_map.mp hx;rfl
   rw[ea]
   walk_at "v"
   refine ja2 (e _ _ hp) hl ?_
   walk_at "v"
   refine j0m (e _ _ hp) ?_
   rw[List.length_map]
   rw[j9z hd]
   walk_at "v"
   rw[show decide ((ss.length:Int)=(ss.length:Int))=true from decide_eq_true rfl]
   exact hq H2 e
  ·walk_at "v"
   refine j69 hk ?_
   have e:(k == .tup)=false:=by cases k <;> first | rfl | exact (nk rfl).elim
   rw[e]
   walk_at "v"
   exact hq H Ext.rfl'
  ·walk_at "v"
   refine j69 (HasK.t hp) ?_
   walk_at "v"
   refine⟨p,rfl,⟨_,SqT.of hp⟩,fun acc hn _ _ _ _=>j4r (SqT.of hp) (by omega) hn (fun j ys _=>ys=((xs.take j).map nmV).map V.bl) (by simp) (fun _ _ _ _ _ h=>h) (fun j ys H' _ h=>by rw[h,List.length_map,List.length_map,List.length_take];omega) ?_ ?_⟩
   ·rintro j y ys H2 hy e rfl Y N hY hN
    obtain⟨k,hk,hz⟩:=(hi y (List.mem_of_getElem? hy)).mono e
    refine j27 ?_
    walk_at "v"
    refine⟨y,k,rfl,hk,hz,fun H3 e3=>?_⟩
    refine hY _ _ e3 ?_
    rw[List.take_add_one,hy]
    simp
   ·rintro ys H2 e2 ha rfl
    rw[List.take_of_length_le (Nat.le_refl _)] at ha
    walk_at "v"
    refine jd0 ha ?_
    have ea:(xs.map nmV).all id=false:=by
     rw[Bool.eq_false_iff]
     intro q
     rw[List.all_eq_true] at q
     have:=q _ (List.mem_map.mpr ⟨x0,hx0,rfl⟩)
     rw[nx0] at this
     cases this
    rw[ea]
    walk_at "v"
    exact hq H2 e2
  ·skip
   walk_at "v"
   refine j69 (HasK.t hp) ?_
   walk_at "v"
   refine⟨p,rfl,⟨_,SqT.of hp⟩,fun acc hn _ _ _ _=>j3a V.str V.bl (fun _=>true) (SqT.of hp) (by omega) hn (fun i x H2 Y hx e hY=>?_) fun H2 e ha=>?_⟩
   ·have hx':=hn' x (List.mem_of_getElem? hx)
    walk_at "v"
    refine⟨.str x,.str,rfl,rfl,fun z ez=>by cases ez;exact⟨j7v hx',by have:=j22 hx';omega⟩,fun H3 e3=>?_⟩
    rw[show nmV (.str x)=true from hx']
    exact hY _ e3
   walk_at "v"
   refine jd0 ha ?_
   have ea:(ss.map fun _=>true).all id=true:=by rw[List.all_eq_true];intro x hx;obtain⟨_,_,rfl⟩:=List.mem_map.mp hx;rfl
   rw[ea]
   walk_at "v"
   refine ja2 (e _ _ hp) hl ?_
   walk_at "v"
   refine j0m (e _ _ hp) ?_
   rw[List.length_map]
   have:=ja0 hd
   walk_at "v"
   rw[show decide ((((metS ss).length:Nat):Int)=(ss.length:Int))=false from decide_eq_false (by omega)]
   exact hq H2 e
namespace Nk
def j37 (a:Adr):Sp:=fun vs H Q _=>∃ (w dw p:Addr) (ss:List Str),vs=[.ref w,.ref p]∧H w=some (.ins a.c_Store dw [("many",.int (ss.length:Nat))])∧H p=some (.tup (ss.map V.str))∧Names ss∧sortedS ss=true∧∀ H',Ext H H'→Q (.bl true) H'
theorem ok_Store_is_state (T:Txt w K mg a):FnOk P w K mg base (CXU P w) 3 a.f_z5 a.d_z5 ["self","thing"] (j37 a):=by
 refine T.F_z5.okU sc_z5 (fun vs H Q E h=>?_) (fun cdv A outer s H vs Q E hr h=>?_)
 ·obtain⟨w,dw,p,ss,rfl,hw,hp,hN,hso,hq⟩:=h
  rfl
 ·obtain⟨w,dw,p,ss,rfl,hw,hp,hN,hso,hq⟩:=h
  have zc_Line:=T.cl_Line
  have zn_Line_many:=T.na_Line_many
  have zc_Store:=T.cl_Store
  have zn_Store_many:=T.na_Store_many
  have zc_Ways:=T.cl_Ways
  have zn_Ways_many:=T.na_Ways_many
  refine⟨_,(j03 (j0c (j1p (j09 (j2f T) (hr.mono (by decide)) (by rfl) T.m_z45 T.F_z45.kp T.b_z45 .nil j0i (j00 (pv 1) j01)) (j1p (j1l (oEq hr) (j08 j24 (by rfl) T.n_len PySem.boot_len (j00 (pv 1) j01)) (j2d (pv 0) rfl) (j0j _)) (j23 (j1l (oEq hr) (j0n jea (by rfl) T.n_list PyProof.Rows.boot_list (j00 (pv 1) j01)) (j08 j6o (by rfl) T.n_sorted PyProof.Rows.boot_sorted (j00 (pv 1) j01)) (j0j _))))))),?_⟩
  have g8:=hN.hi
  walk_at "v"
  refine⟨_,rfl,.inl ⟨p,ss,rfl,hp,hN.nm,hN.nd,by omega,fun H1 e1=>?_⟩⟩
  have hw1:=e1 _ _ hw
  have hp1:=e1 _ _ hp
  walk_at "v"
  refine j0m hp1 ?_
  rw[List.length_map]
  walk_at "v"
  refine iteD (fun _=>?_) (fun q=>(q rfl).elim)
  walk_at "v"
  refine j33 hp1 fun l2 H2 n2 q2 e2=>?_
  walk_at "v"
  refine j4v (e2 _ _ hp1) (by omega) fun l3 s3 H3 n3 p3 o3 q3 e3=>?_
  have:s3=ss:=j3i p3 o3 hso
  subst this
  walk_at "v"
  refine jkc (j3b (e3 _ _ q2)) (j3b q3) (jfk hN.nm) (jfk hN.nm) (by show D.depthL (s3.map D.str)+1≤20;rw[depS];omega) ?_
  rw[jac hN.nm]
  exact hq H3 ((e1.tr e2).tr e3)
end Nk
namespace Nk
def sp_Rule_init (a:Adr):Sp:=fun vs H Q _=>∃ (x dx w dw p:Addr) (ss:List Str),vs=[.ref x,.ref w,.ref p]∧H x=some (.ins a.c_Keeper dx [])∧H w=some (.ins a.c_Store dw [("many",.int (ss.length:Nat))])∧H p=some (.tup (ss.map V.str))∧Names ss∧sortedS ss=true∧∀ H',H' x=some (.ins a.c_Keeper dx [("world",.ref w),("standing",.ref p),("spent",.int 0)])→But x H H'→Q .non H'
theorem ok_Rule_init (T:Txt w K mg a):FnOk P w K mg base (CXU P w) 4 a.f_z43 a.d_z43 ["self","world","start"] (sp_Rule_init a):=by
 refine T.F_z43.okU j8k (fun vs H Q E h=>?_) (fun cdv A outer s H vs Q E hr h=>?_)
 ·obtain⟨x,dx,w,dw,p,ss,rfl,hx,hw,hp,hN,hso,hq⟩:=h
  rfl
 ·obtain⟨x,dx,w,dw,p,ss,rfl,hx,hw,hp,hN,hso,hq⟩:=h
  have zc_Both:=T.cl_Both
  have zn_Both_world:=T.na_Both_world
  have zn_Both_standing:=T.na_Both_standing
  have zn_Both_spent:=T.na_Both_spent
  have zc_Buyer:=T.cl_Buyer
  have zn_Buyer_world:=T.na_Buyer_world
  have zn_Buyer_standing:=T.na_Buyer_standing
  have zn_Buyer_spent:=T.na_Buyer_spent
  have zc_Changer:=T.cl_Changer
  have zn_Changer_world:=T.na_Changer_world
  have zn_Changer_standing:=T.na_Changer_standing
  have zn_Changer_spent:=T.na_Changer_spent
  have zc_Filler:=T.cl_Filler
  have zn_Filler_world:=T.na_Filler_world
  have zn_Filler_standing:=T.na_Filler_standing
  have zn_Filler_spent:=T.na_Filler_spent
  have zc_Front:=T.cl_Front
  have zn_Front_world:=T.na_Front_world
  have zn_Front_standing:=T.na_Front_standing
  have zn_Front_spent:=T.na_Front_spent
  have zc_Keeper:=T.cl_Keeper
  have zn_Keeper_world:=T.na_Keeper_world
  have zn_Keeper_standing:=T.na_Keeper_standing
  have zn_Keeper_spent:=T.na_Keeper_spent
  refine⟨_,(j02 (j12 (j0w (ptT (j1z (pv 1) T.cl_Store T.me_Store_is_state (Nk.ok_Store_is_state T) (hr.mono (by decide)) T.b_z5 .nil j0i (j00 (pv 2) j01)) (fun _=>rfl))) (j03 j4l) j0d)
   (j02 (j1b (pv 0) (pv 1) rfl)
   (j02 (j1b (pv 0) (pv 2) rfl)
   (j03 (j1b (pv 0) j05 rfl))))),?_⟩
  walk_at "v"
  refine⟨w,dw,p,ss,rfl,hw,hp,hN,hso,fun H1 e1=>?_⟩
  walk_at "v"
  refine j2r (e1 _ _ hx) T.cl_Keeper T.na_Keeper_world (j1c rfl) fun H2 h2 b2=>?_
  walk_at "v"
  refine j2r h2 T.cl_Keeper T.na_Keeper_standing (j1c rfl) fun H3 h3 b3=>?_
  walk_at "v"
  refine j2r h3 T.cl_Keeper T.na_Keeper_spent (j1c rfl) fun H4 h4 b4=>?_
  exact hq H4 h4 (Ext.toBut e1 (But.tr (But.tr b2 b3) b4))
end Nk
namespace Nk
def j5v (a:Adr):Sp:=fun vs H Q _=>∃ x dx v,vs=[.ref x,v]∧H x=some (.ins a.c_Store dx [])∧∀ H',H' x=some (.ins a.c_Store dx [("many",v)])→But x H H'→Q .non H'
theorem ok_Store_init (T:Txt w K mg a):FnOk P w K mg base (CXU P w) 1 a.f_z33 a.d_z33 ["self","many"] (j5v a):=by
 refine T.F_z33.okU sc_z33 (fun vs H Q E h=>?_) (fun cdv A outer s H vs Q E hr h=>?_)
 ·obtain⟨x,dx,v,rfl,hx,hq⟩:=h
  rfl
 ·obtain⟨x,dx,v,rfl,hx,hq⟩:=h
  have zc_Line:=T.cl_Line
  have zn_Line_many:=T.na_Line_many
  have zc_Store:=T.cl_Store
  have zn_Store_many:=T.na_Store_many
  have zc_Ways:=T.cl_Ways
  have zn_Ways_many:=T.na_Ways_many
  refine⟨_,(j03 (j1b (pv 0) (pv 1) rfl)),?_⟩
  walk_at "v"
  refine j2r hx T.cl_Store T.na_Store_many (j1c rfl) fun H' h1 h2=>?_
  exact hq H' h1 h2
end Nk
def j2z:Sp:=fun vs H Q _=>∃ v,vs=[v]∧((∃ (p:Addr) (ss:List Str),v=.ref p∧H p=some (.tup (ss.map V.str))∧Names ss∧∀ H',Ext H H'→Q (.bl true) H')∨(NoRow H v∧∀ H',Ext H H'→Q (.bl false) H'))
theorem j1t (T:Txt w K mg a):FnOk P w K mg base (CXU P w) 3 a.f_z0 a.d_z0 ["thing"] (j2z):=by
 refine T.F_z0.okU sc_z0 (fun vs H Q E h=>?_) (fun cdv A outer s H vs Q E hr h=>?_)
 ·obtain⟨v,rfl,h⟩:=h
  rfl
 ·obtain⟨v,rfl,h⟩:=h
  refine⟨_,(j03 (j0c (j1p (j09 (j2f T) (hr.mono (by decide)) (by rfl) T.m_z45 T.F_z45.kp T.b_z45 .nil j0i (j00 (pv 0) j01)) (j23 (j2c oLeW oLeW j05 (j08 j24 (by rfl) T.n_len PySem.boot_len (j00 (pv 0) j01)) j05))))),?_⟩
  rcases h with⟨p,ss,rfl,hp,hN,hq⟩ | ⟨h | ⟨p,ss,rfl,hp,hl,hn',hd,hno⟩,hq⟩
  ·have l1:=hN.lo
   have l8:=hN.hi
   walk_at "v"
   refine⟨_,rfl,.inl ⟨p,ss,rfl,hp,hN.nm,hN.nd,by omega,fun H1 e1=>?_⟩⟩
   walk_at "v"
   refine j0m (e1 _ _ hp) ?_
   rw[List.length_map]
   walk_at "v"
   refine iteD (fun _=>?_) (fun q=>(q (by omega)).elim)
   walk_at "v"
   rw[decide_eq_true (show (ss.length:Int)≤8 by omega)]
   exact hq H1 e1
  ·walk_at "v"
   refine⟨_,rfl,.inr ⟨h,fun H1 e1=>?_⟩⟩
   walk_at "v"
   exact hq H1 e1
  ·walk_at "v"
   refine⟨_,rfl,.inl ⟨p,ss,rfl,hp,hn',hd,by omega,fun H1 e1=>?_⟩⟩
   walk_at "v"
   refine j0m (e1 _ _ hp) ?_
   rw[List.length_map]
   walk_at "v"
   refine iteD (fun c=>?_) (fun c=>?_)
   ·walk_at "v"
    rw[decide_eq_false (show ¬ (ss.length:Int)≤8 by omega)]
    exact hq H1 e1
   ·exact hq H1 e1
namespace Nk
def j51 (a:Adr):Sp:=fun vs H Q E=>∃ (x dx:Addr) (v:V),vs=[.ref x,v]∧H x=some (.ins a.c_Keeper dx []) ∧
 ((∃ (p:Addr) (row:List Str),v=.ref p∧H p=some (.tup (row.map V.str))∧Names row∧∀ H',KeepAt a H' x row 0→But x H H'→Q .non H') ∨
   (NoRow H v∧∀ d H',Ext H H'→H' d=some (.xd [("row",.non)])→E (.ref a.c_NoState) (some d) H'))
theorem ok_Keeper_init (T:Txt w K mg a):FnOk P w K mg base (CXU P w) 6 a.f_z24 a.d_z24 ["self","pages"] (j51 a):=by
 refine T.F_z24.okX sc_z24 (fun vs H Q E h=>?_) (fun cdv A outer s H vs Q E hr h=>?_)
 ·obtain⟨x,dx,v,rfl,hx,h⟩:=h
  rfl
 ·obtain⟨x,dx,v,rfl,hx,h⟩:=h
  have zc_Keeper:=T.cl_Keeper
  have zn_Keeper_row:=T.na_Keeper_row
  refine⟨_,(j02 (j12 (j0w (ptT (j09 (j1t T) (hr.mono (by decide)) (by rfl) T.m_z0 T.F_z0.kp T.b_z0 .nil j0i (j00 (pv 1) j01)) (fun _=>rfl))) (j03 (j19 j3w rfl (j32 (T.ek_NoState.em (.inr ⟨_,rfl⟩)) (j0g T) (hr.mono (by decide)) (by rfl) T.m_NoState T.b1_LateError_init T.w_LateError_init j0i))) j0d)
   (j02 (j2i (j2t (C:=a.c_Bound) (j1j (v:=V.ref a.c_Bound) (by rfl) T.m_Bound rfl) T.cm_Bound_init (Nk.ok_Rule_init T) (hr.mono (by decide)) T.b_z43 .nil j0i (j00 (pv 0) (j00 (j20 T.mk_Store (Nk.ok_Store_init T) (hr.mono (by decide)) (by rfl) T.m_Store T.b_z33 .nil j0i (j00 (j08 j24 (by rfl) T.n_len PySem.boot_len (j00 (pv 1) j01)) j01)) (j00 (j0n j9g (by rfl) T.n_tuple PyProof.Rows.boot_tuple (j00 (j08 j6o (by rfl) T.n_sorted PyProof.Rows.boot_sorted (j00 (pv 1) j01)) j01)) j01)))))
   (j03 (j1b (pv 0) (j0n jea (by rfl) T.n_list PyProof.Rows.boot_list (j00 (pv 1) j01)) rfl)))),?_⟩
  rcases h with⟨p,row,rfl,hp,hN,hq⟩ | ⟨h,hn⟩
  ·have g8:=hN.hi
   walk_at "v"
   refine⟨_,rfl,.inl ⟨p,row,rfl,hp,hN,fun H1 e1=>?_⟩⟩
   have hx1:=e1 _ _ hx
   have hp1:=e1 _ _ hp
   walk_at "v"
   refine j0m hp1 ?_
   rw[List.length_map]
   walk_at "v"
   intro w dw k1 k2 k3
   have nx:w≠x:=(j04 hx1 k1).symm
   refine⟨w,dw,_,rfl,j0a,fun H2 h2 b2=>⟨rfl,?_⟩⟩
   have x2:Ext H1 H2:=fun b o hb=>b2 b o (j04 hb k1) (by rw[j0e (j04 hb k1),j0e (j04 hb k2)];exact hb)
   have hp2:=x2 _ _ hp1
   walk_at "v"
   refine j4v hp2 (by omega) fun l3 s3 H3 n3 p3 o3 q3 e3=>?_
   walk_at "v"
   refine j2u q3 fun t4 H4 n4 q4 e4=>?_
   have e34:=e3.tr e4
   have hx4:=e34 _ _ (x2 _ _ hx1)
   have hw4:=e34 _ _ h2
   have hp4:=e34 _ _ hp2
   walk_at "v"
   refine⟨x,dx,w,dw,t4,s3,rfl,hx4,by rw[p3.length_eq];exact hw4,q4,hN.perm p3,o3,fun H5 h5 b5=>?_⟩
   have np:p≠x:=jij hp hx (by intro z;cases z)
   have hp5:=b5 _ _ np hp4
   walk_at "v"
   refine j33 hp5 fun l6 H6 n6 q6 e6=>?_
   walk_at "v"
   refine j2r (e6 _ _ h5) T.cl_Keeper T.na_Keeper_row (j1c rfl) fun H7 h7 b7=>?_
   have nt:t4≠x:=jij q4 hx4 (by intro z;cases z)
   have nl:l6≠x:=(j04 h5 n6).symm
   exact hq H7 ⟨dx,w,dw,t4,l6,s3,h7,b7 _ _ nx (e6 _ _ (b5 _ _ nx hw4)),b7 _ _ nt (e6 _ _ (b5 _ _ nt q4)),b7 _ _ nl q6,p3,o3⟩ (Ext.toBut (e1.tr (x2.tr e34)) (b5.tr (Ext.toBut e6 b7)))
  ·walk_at "v"
   refine⟨_,rfl,.inr ⟨h,fun H1 e1=>?_⟩⟩
   walk_at "v"
   exact j1g T.ek_NoState (.inr ⟨_,rfl⟩) fun d H' _ q1 e2=>hn d H' (e1.tr e2) q1
end Nk
namespace Nw
def stt (n:Int):V→Bool
 | .int i=>decide (0≤i) && decide (i < n)
 | _=>false
def j3o (a:Adr):Sp:=fun vs H Q _=>∃ (w dw:Addr) (n t:Int) (x:V) (k:Kd),vs=[.ref w,x]∧H w=some (.ins a.c_Ways dw [("many",.int n),("toll",.int t)])∧HasK H x k∧Q (.bl (stt n x)) H
theorem ok_Ways_is_state (T:Txt w K mg a):FnOk P w K mg base (CXU P w) 2 a.f_z12 a.d_z12 ["self","thing"] (j3o a):=by
 refine T.F_z12.okU sc_z12 (fun vs H Q E h=>?_) (fun cdv A outer s H vs Q E hr h=>?_)
 ·obtain⟨w,dw,n,t,x,k,rfl,hw,hk,hq⟩:=h
  rfl
 ·obtain⟨w,dw,n,t,x,k,rfl,hw,hk,hq⟩:=h
  have zc_Line:=T.cl_Line
  have zn_Line_many:=T.na_Line_many
  have zc_Store:=T.cl_Store
  have zn_Store_many:=T.na_Store_many
  have zc_Ways:=T.cl_Ways
  have zn_Ways_many:=T.na_Ways_many
  refine⟨_,(j03 (j0c (j1p (j09 (j0s T) (hr.mono (by decide)) (by rfl) T.m_z1 T.F_z1.kp T.b_z1 .nil j0i (j00 (pv 1) j01)) (j23 (j2c oLeW jfq j05 (pv 1) (j2d (pv 0) rfl)))))),?_⟩
  walk_at "v"
  refine⟨x,k,rfl,hk,?_⟩
  cases x with
  | int i =>
   cases (show k=.int from hk)
   walk_at "v"
   refine iteD (fun h=>?_) (fun h=>?_)
   ·walk_at "v"
    have e:stt n (.int i)=decide (i < n):=by show (decide (0≤i) && _)=_;rw[decide_eq_true h,Bool.true_and]
    rw[← e];exact hq
   ·walk_at "v"
    have e:stt n (.int i)=false:=by show (decide (0≤i) && _)=_;rw[decide_eq_false h,Bool.false_and]
    rw[← e];exact hq
  | non=>cases (show k=.non from hk);(walk_at "v");exact hq
  | bl b=>cases (show k=.bl from hk);(walk_at "v");exact hq
  | str b=>cases (show k=.str from hk);(walk_at "v");exact hq
  | ref b =>
   have e:(k == .int)=false:=by rcases hk with⟨_,_,rfl⟩ | ⟨_,_,rfl⟩ | ⟨_,_,rfl⟩ <;> rfl
   rw[e];(walk_at "v");exact hq
  | _=>exact hk.elim
end Nw
namespace Nw
def sp_Rule_init (a:Adr):Sp:=fun vs H Q E=>∃ (x dx w dw:Addr) (n t:Int) (v:V) (k:Kd),vs=[.ref x,.ref w,v]∧H x=some (.ins a.c_Changer dx [])∧H w=some (.ins a.c_Ways dw [("many",.int n),("toll",.int t)])∧HasK H v k ∧
 (stt n v=true→∀ H',H' x=some (.ins a.c_Changer dx [("world",.ref w),("standing",v),("spent",.int 0)])→But x H H'→Q .non H') ∧
 (stt n v=false→∀ d H',Ext H H'→H' d=some (.xd [("row",.non)])→E (.ref a.c_NoState) (some d) H')
theorem ok_Rule_init (T:Txt w K mg a):FnOk P w K mg base (CXU P w) 3 a.f_z43 a.d_z43 ["self","world","start"] (sp_Rule_init a):=by
 refine T.F_z43.okX j8k (fun vs H Q E h=>?_) (fun cdv A outer s H vs Q E hr h=>?_)
 ·obtain⟨x,dx,w,dw,n,t,v,k,rfl,hx,hw,hk,hy,hn⟩:=h
  rfl
 ·obtain⟨x,dx,w,dw,n,t,v,k,rfl,hx,hw,hk,hy,hn⟩:=h
  have zc_Both:=T.cl_Both
  have zn_Both_world:=T.na_Both_world
  have zn_Both_standing:=T.na_Both_standing
  have zn_Both_spent:=T.na_Both_spent
  have zc_Buyer:=T.cl_Buyer
  have zn_Buyer_world:=T.na_Buyer_world
  have zn_Buyer_standing:=T.na_Buyer_standing
  have zn_Buyer_spent:=T.na_Buyer_spent
  have zc_Changer:=T.cl_Changer
  have zn_Changer_world:=T.na_Changer_world
  have zn_Changer_standing:=T.na_Changer_standing
  have zn_Changer_spent:=T.na_Changer_spent
  have zc_Filler:=T.cl_Filler
  have zn_Filler_world:=T.na_Filler_world
  have zn_Filler_standing:=T.na_Filler_standing
  have zn_Filler_spent:=T.na_Filler_spent
  have zc_Front:=T.cl_Front
  have zn_Front_world:=T.na_Front_world
  have zn_Front_standing:=T.na_Front_standing
  have zn_Front_spent:=T.na_Front_spent
  have zc_Keeper:=T.cl_Keeper
  have zn_Keeper_world:=T.na_Keeper_world
  have zn_Keeper_standing:=T.na_Keeper_standing
  have zn_Keeper_spent:=T.na_Keeper_spent
  refine⟨_,(j02 (j12 (j0w (ptT (j1z (pv 1) T.cl_Ways T.me_Ways_is_state (Nw.ok_Ways_is_state T) (hr.mono (by decide)) T.b_z12 .nil j0i (j00 (pv 2) j01)) (fun _=>rfl))) (j03 (j19 j3w rfl (j32 (T.ek_NoState.em (.inr ⟨_,rfl⟩)) (j0g T) (hr.mono (by decide)) (by rfl) T.m_NoState T.b1_LateError_init T.w_LateError_init j0i))) j0d)
   (j02 (j1b (pv 0) (pv 1) rfl)
   (j02 (j1b (pv 0) (pv 2) rfl)
   (j03 (j1b (pv 0) j05 rfl))))),?_⟩
  walk_at "v"
  refine⟨w,dw,n,t,v,k,rfl,hw,hk,?_⟩
  cases hb:stt n v with
  | false =>
   walk_at "v"
   exact j1g T.ek_NoState (.inr ⟨_,rfl⟩) fun d H' _ q1 e1=>hn hb d H' e1 q1
  | true =>
   walk_at "v"
   refine j2r hx T.cl_Changer T.na_Changer_world (j1c rfl) fun H2 h2 b2=>?_
   walk_at "v"
   refine j2r h2 T.cl_Changer T.na_Changer_standing (j1c rfl) fun H3 h3 b3=>?_
   walk_at "v"
   refine j2r h3 T.cl_Changer T.na_Changer_spent (j1c rfl) fun H4 h4 b4=>?_
   exact hy hb H4 h4 (But.tr (But.tr b2 b3) b4)
end Nw
namespace Nw
def j6w (a:Adr):Sp:=fun vs H Q _=>∃ x dx v u,vs=[.ref x,v,u]∧H x=some (.ins a.c_Ways dx [])∧∀ H',H' x=some (.ins a.c_Ways dx [("many",v),("toll",u)])→But x H H'→Q .non H'
theorem ok_Ways_init (T:Txt w K mg a):FnOk P w K mg base (CXU P w) 1 a.f_z44 a.d_z44 ["self","many","toll"] (j6w a):=by
 refine T.F_z44.okU sc_z44 (fun vs H Q E h=>?_) (fun cdv A outer s H vs Q E hr h=>?_)
 ·obtain⟨x,dx,v,u,rfl,hx,hq⟩:=h
  rfl
 ·obtain⟨x,dx,v,u,rfl,hx,hq⟩:=h
  have zc_Line:=T.cl_Line
  have zn_Line_many:=T.na_Line_many
  have zc_Store:=T.cl_Store
  have zn_Store_many:=T.na_Store_many
  have zc_Ways:=T.cl_Ways
  have zn_Ways_many:=T.na_Ways_many
  have zn_Ways_toll:=T.na_Ways_toll
  refine⟨_,(j02 (j1b (pv 0) (pv 1) rfl)
   (j03 (j1b (pv 0) (pv 2) rfl))),?_⟩
  walk_at "v"
  refine j2r hx T.cl_Ways T.na_Ways_many (j1c rfl) fun H1 h1 b1=>?_
  walk_at "v"
  refine j2r h1 T.cl_Ways T.na_Ways_toll (j1c rfl) fun H2 h2 b2=>?_
  exact hq H2 h2 (b1.tr b2)
end Nw
namespace Nw
def okC (nv tv sv:V):Bool:=fot 8 nv && amt tv && match nv with | .int n=>stt n sv | _=>false
theorem jhz {m:Int}:∀ {x:V},fot m x=true→∃ i,x=.int i∧1≤i∧i≤m
 | .int i,h=>by
  have h':(decide (1≤i) && decide (i≤m))=true:=h
  rw[Bool.and_eq_true,decide_eq_true_iff,decide_eq_true_iff] at h'
  exact⟨i,rfl,h'.1,h'.2⟩
theorem amt_int:∀ {x:V},amt x=true→∃ i,x=.int i∧0≤i∧i≤1000000000000000000
 | .int i,h=>by
  have h':(decide (0≤i) && decide (i≤1000000000000000000))=true:=h
  rw[Bool.and_eq_true,decide_eq_true_iff,decide_eq_true_iff] at h'
  exact⟨i,rfl,h'.1,h'.2⟩
theorem ji0 {n:Int}:∀ {x:V},stt n x=true→∃ i,x=.int i∧0≤i∧i < n
 | .int i,h=>by
  have h':(decide (0≤i) && decide (i < n))=true:=h
  rw[Bool.and_eq_true,decide_eq_true_iff,decide_eq_true_iff] at h'
  exact⟨i,rfl,h'.1,h'.2⟩
def j46 (a:Adr):Sp:=fun vs H Q E=>∃ (x dx:Addr) (nv tv sv:V) (kn kt ks:Kd),vs=[.ref x,nv,tv,sv]∧H x=some (.ins a.c_Changer dx [])∧HasK H nv kn∧HasK H tv kt∧HasK H sv ks ∧
 (okC nv tv sv=true→∀ n t h,nv=.int n→tv=.int t→sv=.int h→∀ H',WaysAt a H' x (fstW n.toNat t h) h t 0→But x H H'→Q .non H') ∧
 (okC nv tv sv=false→∀ d H',But x H H'→H' d=some (.xd [("row",.non)])→E (.ref a.c_NoState) (some d) H')
theorem ok_Changer_init (T:Txt w K mg a):FnOk P w K mg base (CXU P w) 5 a.f_z15 a.d_z15 ["self","many","toll","start"] (j46 a):=by
 refine T.F_z15.okX sc_z15 (fun vs H Q E h=>?_) (fun cdv A outer s H vs Q E hr h=>?_)
 ·obtain⟨x,dx,nv,tv,sv,kn,kt,ks,rfl,hx,hkn,hkt,hks,hy,hn⟩:=h
  rfl
 ·obtain⟨x,dx,nv,tv,sv,kn,kt,ks,rfl,hx,hkn,hkt,hks,hy,hn⟩:=h
  have zc_Changer:=T.cl_Changer
  have zn_Changer_reckoned:=T.na_Changer_reckoned
  refine⟨_,(j02 (j12 (PW.pt (j58 (j0w (ptT (j09 (j1i T) (hr.mono (by decide)) (by rfl) T.m_z6 T.F_z6.kp T.b_z6 .nil j0i (j00 (pv 1) (j00 j05 j01))) (fun _=>rfl))) (j2a (j0w (ptT (j09 (j1k T) (hr.mono (by decide)) (by rfl) T.m_z46 T.F_z46.kp T.b_z46 .nil j0i (j00 (pv 2) j01)) (fun _=>rfl)))))) (j03 (j19 j3w rfl (j32 (T.ek_NoState.em (.inr ⟨_,rfl⟩)) (j0g T) (hr.mono (by decide)) (by rfl) T.m_NoState T.b1_LateError_init T.w_LateError_init j0i))) j0d)
   (j02 (j2i (j2t (C:=a.c_Bound) (j1j (v:=V.ref a.c_Bound) (by rfl) T.m_Bound rfl) T.cm_Bound_init (Nw.ok_Rule_init T) (hr.mono (by decide)) T.b_z43 .nil (jb1 j3w) (j00 (pv 0) (j00 (j20 T.mk_Ways (Nw.ok_Ways_init T) (hr.mono (by decide)) (by rfl) T.m_Ways T.b_z44 .nil j0i (j00 (pv 1) (j00 (pv 2) j01))) (j00 (pv 3) j01)))))
   (j03 (j1b (pv 0) (j1r (["way"]:List Str) (["start","toll"]:List Str) [3,2] rfl ⟨rfl,by decide +kernel,by decide +kernel,by rfl,⟨⟨rfl,by first | exact Or.inl rfl | exact Or.inr rfl,by first | exact Or.inl rfl | exact Or.inr rfl⟩,⟨rfl,by first | exact Or.inl rfl | exact Or.inr rfl,by first | exact Or.inl rfl | exact Or.inr rfl⟩,trivial⟩⟩ (j1u rfl T.n_range (j00 (pv 1) j01)) (fun _ _ _ _=>⟨(j0p (i:=0) (by show ((["way"]:List Str)++(["start","toll"]:List Str)).Nodup;decide +kernel) rfl (by first | exact Or.inl rfl | exact Or.inr rfl)),(show PTs _ [] [] from trivial),(j6c (j0h (oEq hr) (pv 0) (pv 1) (j0j _)) j05 (pv 2))⟩)) rfl)))),?_⟩
  walk_at "v"
  refine⟨nv,kn,8,rfl,hkn,?_⟩
  cases h1:fot 8 nv with
  | false =>
   walk_at "v"
   exact j1g T.ek_NoState (.inr ⟨_,rfl⟩) fun d H' _ q1 e1=>hn (by unfold okC;rw[h1];rfl) d H' e1.asBut q1
  | true =>
  walk_at "v"
  refine⟨tv,kt,rfl,hkt,?_⟩
  cases h2:amt tv with
  | false =>
   walk_at "v"
   exact j1g T.ek_NoState (.inr ⟨_,rfl⟩) fun d H' _ q1 e1=>hn (by unfold okC;rw[h1,h2];rfl) d H' e1.asBut q1
  | true =>
  obtain⟨n,rfl,n1,n8⟩:=jhz h1
  obtain⟨t,rfl,t0,t1⟩:=amt_int h2
  have ek:okC (.int n) (.int t) sv=stt n sv:=by unfold okC;rw[h1,h2];rfl
  rw[ek] at hy hn
  walk_at "v"
  intro w dw k1 k2 k3
  have nx:w≠x:=(j04 hx k1).symm
  refine⟨w,dw,.int n,.int t,rfl,j0a,fun H1 h1' b1=>⟨rfl,?_⟩⟩
  have x1:Ext H H1:=fun b o hb=>b1 b o (j04 hb k1) (by rw[j0e (j04 hb k1),j0e (j04 hb k2)];exact hb)
  walk_at "v"
  refine⟨x,dx,w,dw,n,t,sv,ks,rfl,x1 _ _ hx,h1',hks.mono x1,fun hb H2 h2 b2=>?_,fun hb d H' e q=>hn hb d H' (x1.tr e).asBut q⟩
  obtain⟨h,rfl,h0,h1⟩:=ji0 hb
  walk_at "v"
  refine⟨_,rfl,by omega,by omega,fun acc ha0 _ _ _ _=>jbx V.int (fun (i:Nat)=>if (i:Int)=h then (0:Int) else t) (by omega) ha0 (fun i H3 Y hi e hY=>?_) fun H3 e3 ha=>?_⟩
  ·walk_at "v"
   refine iteD (fun c=>?_) (fun c=>?_)
   ·rw[if_pos c] at hY
    walk_at "v"
    exact hY _ Ext.rfl'
   ·rw[if_neg c] at hY
    walk_at "v"
    exact hY _ Ext.rfl'
  ·have h23:=e3 _ _ h2
   walk_at "v"
   refine j2r h23 T.cl_Changer T.na_Changer_reckoned (j1c rfl) fun H4 h4 b4=>?_
   have nw:acc≠x:=(j04 h2 ha0).symm
   refine hy hb n t h rfl rfl rfl H4 ⟨dx,w,dw,acc,h4,?_,b4 _ _ nw ha⟩ (Ext.toBut x1 (b2.tr (Ext.toBut e3 b4)))
   rw[fst_len,show ((n.toNat:Nat):Int)=n by omega]
   exact b4 _ _ nx (e3 _ _ (b2 _ _ nx h1'))
end Nw
namespace Nh
def st01:V→Bool
 | .int i=>decide (0≤i) && decide (i≤1)
 | _=>false
def j3p:Sp:=fun vs H Q _=>∃ r x k,vs=[.ref r,x]∧HasK H x k∧Q (.bl (st01 x)) H
theorem ok_Hire_is_state (T:Txt w K mg a):FnOk P w K mg base (CXU P w) 2 a.f_z8 a.d_z8 ["self","thing"] (j3p):=by
 refine T.F_z8.okU sc_z8 (fun vs H Q E h=>?_) (fun cdv A outer s H vs Q E hr h=>?_)
 ·obtain⟨r,x,k,rfl,hk,hq⟩:=h
  rfl
 ·obtain⟨r,x,k,rfl,hk,hq⟩:=h
  refine⟨_,(j03 (j0c (j1p (j09 (j0s T) (hr.mono (by decide)) (by rfl) T.m_z1 T.F_z1.kp T.b_z1 .nil j0i (j00 (pv 1) j01)) (j23 (j2c oLeW oLeW j05 (pv 1) j05))))),?_⟩
  walk_at "v"
  refine⟨x,k,rfl,hk,?_⟩
  cases x with
  | int i =>
   cases (show k=.int from hk)
   walk_at "v"
   refine iteD (fun h=>?_) (fun h=>?_)
   ·walk_at "v"
    have e:st01 (.int i)=decide (i≤1):=by show (decide (0≤i) && _)=_;rw[decide_eq_true h,Bool.true_and]
    rw[← e];exact hq
   ·walk_at "v"
    have e:st01 (.int i)=false:=by show (decide (0≤i) && _)=_;rw[decide_eq_false h,Bool.false_and]
    rw[← e];exact hq
  | non=>cases (show k=.non from hk);(walk_at "v");exact hq
  | bl b=>cases (show k=.bl from hk);(walk_at "v");exact hq
  | str b=>cases (show k=.str from hk);(walk_at "v");exact hq
  | ref b =>
   have e:(k == .int)=false:=by rcases hk with⟨_,_,rfl⟩ | ⟨_,_,rfl⟩ | ⟨_,_,rfl⟩ <;> rfl
   rw[e];(walk_at "v");exact hq
  | _=>exact hk.elim
end Nh
namespace Nh
def sp_Rule_init (a:Adr):Sp:=fun vs H Q _=>∃ x dx wo dw W,vs=[.ref x,.ref wo,.int 0]∧H x=some (.ins a.c_Buyer dx [])∧H wo=some (.ins a.c_Hire dw (hfl W))∧∀ H',H' x=some (.ins a.c_Buyer dx (bfl wo 0 0))→But x H H'→Q .non H'
theorem ok_Rule_init (T:Txt w K mg a):FnOk P w K mg base (CXU P w) 3 a.f_z43 a.d_z43 ["self","world","start"] (sp_Rule_init a):=by
 refine T.F_z43.okU j8k (fun vs H Q E h=>?_) (fun cdv A outer s H vs Q E hr h=>?_)
 ·obtain⟨x,dx,wo,dw,W,rfl,hx,hw,hq⟩:=h
  rfl
 ·obtain⟨x,dx,wo,dw,W,rfl,hx,hw,hq⟩:=h
  have zc_Both:=T.cl_Both
  have zn_Both_world:=T.na_Both_world
  have zn_Both_standing:=T.na_Both_standing
  have zn_Both_spent:=T.na_Both_spent
  have zc_Buyer:=T.cl_Buyer
  have zn_Buyer_world:=T.na_Buyer_world
  have zn_Buyer_standing:=T.na_Buyer_standing
  have zn_Buyer_spent:=T.na_Buyer_spent
  have zc_Changer:=T.cl_Changer
  have zn_Changer_world:=T.na_Changer_world
  have zn_Changer_standing:=T.na_Changer_standing
  have zn_Changer_spent:=T.na_Changer_spent
  have zc_Filler:=T.cl_Filler
  have zn_Filler_world:=T.na_Filler_world
  have zn_Filler_standing:=T.na_Filler_standing
  have zn_Filler_spent:=T.na_Filler_spent
  have zc_Front:=T.cl_Front
  have zn_Front_world:=T.na_Front_world
  have zn_Front_standing:=T.na_Front_standing
  have zn_Front_spent:=T.na_Front_spent
  have zc_Keeper:=T.cl_Keeper
  have zn_Keeper_world:=T.na_Keeper_world
  have zn_Keeper_standing:=T.na_Keeper_standing
  have zn_Keeper_spent:=T.na_Keeper_spent
  refine⟨_,(j02 (j12 (j0w (ptT (j1z (pv 1) T.cl_Hire T.me_Hire_is_state (Nh.ok_Hire_is_state T) (hr.mono (by decide)) T.b_z8 .nil j0i (j00 (pv 2) j01)) (fun _=>rfl))) (j03 j4l) j0d)
   (j02 (j1b (pv 0) (pv 1) rfl)
   (j02 (j1b (pv 0) (pv 2) rfl)
   (j03 (j1b (pv 0) j05 rfl))))),?_⟩
  walk_at "v"
  refine⟨wo,.int 0,.int,rfl,rfl,?_⟩
  walk_at "v"
  refine j2r hx T.cl_Buyer T.na_Buyer_world (j1c rfl) fun H1 h1 b1=>?_
  walk_at "v"
  refine j2r h1 T.cl_Buyer T.na_Buyer_standing (j1c rfl) fun H2 h2 b2=>?_
  walk_at "v"
  refine j2r h2 T.cl_Buyer T.na_Buyer_spent (j1c rfl) fun H3 h3 b3=>?_
  exact hq H3 h3 (But.tr (But.tr b1 b2) b3)
end Nh
namespace Nh
def j6x (a:Adr):Sp:=fun vs H Q _=>∃ x dx v,vs=[.ref x,v]∧H x=some (.ins a.c_Hire dx [])∧∀ H',H' x=some (.ins a.c_Hire dx [("whole",v)])→But x H H'→Q .non H'
theorem ok_Hire_init (T:Txt w K mg a):FnOk P w K mg base (CXU P w) 1 a.f_z41 a.d_z41 ["self","whole"] (j6x a):=by
 refine T.F_z41.okU sc_z41 (fun vs H Q E h=>?_) (fun cdv A outer s H vs Q E hr h=>?_)
 ·obtain⟨x,dx,v,rfl,hx,hq⟩:=h
  rfl
 ·obtain⟨x,dx,v,rfl,hx,hq⟩:=h
  have zc_Hire:=T.cl_Hire
  have zn_Hire_whole:=T.na_Hire_whole
  refine⟨_,(j03 (j1b (pv 0) (pv 1) rfl)),?_⟩
  walk_at "v"
  refine j2r hx T.cl_Hire T.na_Hire_whole (j1c rfl) fun H' h1 h2=>?_
  exact hq H' h1 h2
end Nh
namespace Nh
def okB:V→Bool
 | .int i=>decide (1≤i) && decide (i≤1000000000000000000)
 | _=>false
theorem amt_int:∀ {x:V},amt x=true→∃ i,x=.int i∧0≤i∧i≤1000000000000000000
 | .int i,h=>by
  have h':(decide (0≤i) && decide (i≤1000000000000000000))=true:=h
  rw[Bool.and_eq_true,decide_eq_true_iff,decide_eq_true_iff] at h'
  exact⟨i,rfl,h'.1,h'.2⟩
theorem ji1 {i:Int} (h:¬ (1≤i∧i≤1000000000000000000)):okB (.int i)=false:=by
 show (decide (1≤i) && decide (i≤1000000000000000000))=false
 rw[Bool.and_eq_false_iff,decide_eq_false_iff_not,decide_eq_false_iff_not]
 omega
theorem okB_yes {i:Int} (h:1≤i) (h2:i≤1000000000000000000):okB (.int i)=true:=by
 show (decide (1≤i) && decide (i≤1000000000000000000))=true
 rw[decide_eq_true h,decide_eq_true h2]
 rfl
theorem ji2 {x:V} (h:amt x=false):okB x=false:=by
 cases x with
 | int i =>
  have h':(decide (0≤i) && decide (i≤1000000000000000000))=false:=h
  rw[Bool.and_eq_false_iff,decide_eq_false_iff_not,decide_eq_false_iff_not] at h'
  exact ji1 (by omega)
 | _=>rfl
def j5w (a:Adr):Sp:=fun vs H Q E=>∃ (x dx:Addr) (v:V) (k:Kd),vs=[.ref x,v]∧H x=some (.ins a.c_Buyer dx [])∧HasK H v k ∧
 (okB v=true→∀ W,v=.int W→∀ H',BuyAt a H' x W 0 0→But x H H'→Q .non H') ∧
 (okB v=false→∀ d H',Ext H H'→H' d=some (.xd [("row",.non)])→E (.ref a.c_NoState) (some d) H')
theorem ok_Buyer_init (T:Txt w K mg a):FnOk P w K mg base (CXU P w) 5 a.f_z29 a.d_z29 ["self","whole"] (j5w a):=by
 refine T.F_z29.okX sc_z29 (fun vs H Q E h=>?_) (fun cdv A outer s H vs Q E hr h=>?_)
 ·obtain⟨x,dx,v,k,rfl,hx,hk,hy,hn⟩:=h
  rfl
 ·obtain⟨x,dx,v,k,rfl,hx,hk,hy,hn⟩:=h
  refine⟨_,(j02 (j12 (PW.pt (j58 (j0w (ptT (j09 (j1k T) (hr.mono (by decide)) (by rfl) T.m_z46 T.F_z46.kp T.b_z46 .nil j0i (j00 (pv 1) j01)) (fun _=>rfl))) (j2a (j0h (oEq hr) (pv 1) j05 (j0j _))))) (j03 (j19 j3w rfl (j32 (T.ek_NoState.em (.inr ⟨_,rfl⟩)) (j0g T) (hr.mono (by decide)) (by rfl) T.m_NoState T.b1_LateError_init T.w_LateError_init j0i))) j0d)
   (j03 (j2i (j2t (C:=a.c_Bound) (j1j (v:=V.ref a.c_Bound) (by rfl) T.m_Bound rfl) T.cm_Bound_init (Nh.ok_Rule_init T) (hr.mono (by decide)) T.b_z43 .nil j0i (j00 (pv 0) (j00 (j20 T.mk_Hire (Nh.ok_Hire_init T) (hr.mono (by decide)) (by rfl) T.m_Hire T.b_z41 .nil j0i (j00 (pv 1) j01)) (j00 j05 j01))))))),?_⟩
  walk_at "v"
  refine⟨v,k,rfl,hk,?_⟩
  cases hb:amt v with
  | false =>
   walk_at "v"
   exact j1g T.ek_NoState (.inr ⟨_,rfl⟩) fun d H' _ q1 e1=>hn (ji2 hb) d H' e1 q1
  | true =>
  obtain⟨W,rfl,w0,w1⟩:=amt_int hb
  walk_at "v"
  refine iteD (fun h=>?_) (fun h=>?_)
  ·walk_at "v"
   exact j1g T.ek_NoState (.inr ⟨_,rfl⟩) fun d H' _ q1 e1=>hn (ji1 (by omega)) d H' e1 q1
  walk_at "v"
  intro wo dw n1 n2 n3
  refine⟨wo,dw,.int W,rfl,j0a,fun H1 h1' b1=>⟨rfl,?_⟩⟩
  walk_at "v"
  have nx:x≠wo:=j04 hx n1
  have nd:x≠dw:=j04 hx n2
  have x1:H1 x=some (.ins a.c_Buyer dx []):=b1 x _ nx (by rw[j0e nx,j0e nd];exact hx)
  refine⟨x,dx,wo,dw,W,rfl,x1,h1',fun H2 h2 b2=>?_⟩
  exact hy (okB_yes (by omega) w1) W rfl H2 ⟨dx,wo,dw,h2,b2 wo _ nx.symm h1'⟩ fun b o hb hbo=>b2 b o hb (b1 b o (j04 hbo n1) (by rw[j0e (j04 hbo n1),j0e (j04 hbo n2)];exact hbo))
end Nh
namespace Ns
def j38 (a:Adr):Sp:=fun vs H Q _=>∃ (w dw tp p:Addr) (ss:List Str),vs=[.ref w,.ref p]∧H w=some (.ins a.c_Shelf dw [("things",.ref tp)])∧H tp=some (.tup (ss.map V.str))∧H p=some (.tup (ss.map V.str))∧Names ss∧∀ H',Ext H H'→Q (.bl true) H'
theorem ok_Shelf_is_state (T:Txt w K mg a):FnOk P w K mg base (CXU P w) 3 a.f_z4 a.d_z4 ["self","thing"] (j38 a):=by
 refine T.F_z4.okU sc_z4 (fun vs H Q E h=>?_) (fun cdv A outer s H vs Q E hr h=>?_)
 ·obtain⟨w,dw,tp,p,ss,rfl,hw,ht,hp,hN,hq⟩:=h
  rfl
 ·obtain⟨w,dw,tp,p,ss,rfl,hw,ht,hp,hN,hq⟩:=h
  have zc_Shelf:=T.cl_Shelf
  have zn_Shelf_things:=T.na_Shelf_things
  refine⟨_,(j03 (j0c (j1p (j09 (j2f T) (hr.mono (by decide)) (by rfl) T.m_z45 T.F_z45.kp T.b_z45 .nil j0i (j00 (pv 1) j01)) (j23 (j1l (oEq hr) (j08 j6o (by rfl) T.n_sorted PyProof.Rows.boot_sorted (j00 (pv 1) j01)) (j08 j6o (by rfl) T.n_sorted PyProof.Rows.boot_sorted (j00 (j2d (pv 0) rfl) j01)) (j0j _)))))),?_⟩
  have g8:=hN.hi
  walk_at "v"
  refine⟨_,rfl,.inl ⟨p,ss,rfl,hp,hN.nm,hN.nd,by omega,fun H1 e1=>?_⟩⟩
  have hw1:=e1 _ _ hw
  walk_at "v"
  refine j4v (e1 _ _ hp) (by omega) fun l2 s2 H2 n2 p2 o2 q2 e2=>?_
  have hw2:=e2 _ _ hw1
  walk_at "v"
  refine j4v (e2 _ _ (e1 _ _ ht)) (by omega) fun l3 s3 H3 n3 p3 o3 q3 e3=>?_
  have:s3=s2:=j3i (p3.trans p2.symm) o3 o2
  subst this
  walk_at "v"
  have nm3:∀ s∈s3,nmS s=true:=fun s hs=>hN.nm s (p3.mem_iff.mp hs)
  refine jkc (j3b (e3 _ _ q2)) (j3b q3) (jfk nm3) (jfk nm3) (by show D.depthL (s3.map D.str)+1≤20;rw[depS];omega) ?_
  rw[jac nm3]
  exact hq H3 ((e1.tr e2).tr e3)
end Ns
namespace Ns
def sp_Rule_init (a:Adr):Sp:=fun vs H Q _=>∃ (x dx w dw tp p:Addr) (ss:List Str),vs=[.ref x,.ref w,.ref p]∧H x=some (.ins a.c_Front dx [])∧H w=some (.ins a.c_Shelf dw [("things",.ref tp)])∧H tp=some (.tup (ss.map V.str))∧H p=some (.tup (ss.map V.str))∧Names ss∧∀ H',H' x=some (.ins a.c_Front dx (sfl w p 0))→But x H H'→Q .non H'
theorem ok_Rule_init (T:Txt w K mg a):FnOk P w K mg base (CXU P w) 4 a.f_z43 a.d_z43 ["self","world","start"] (sp_Rule_init a):=by
 refine T.F_z43.okU j8k (fun vs H Q E h=>?_) (fun cdv A outer s H vs Q E hr h=>?_)
 ·obtain⟨x,dx,w,dw,tp,p,ss,rfl,hx,hw,ht,hp,hN,hq⟩:=h
  rfl
 ·obtain⟨x,dx,w,dw,tp,p,ss,rfl,hx,hw,ht,hp,hN,hq⟩:=h
  have zc_Both:=T.cl_Both
  have zn_Both_world:=T.na_Both_world
  have zn_Both_standing:=T.na_Both_standing
  have zn_Both_spent:=T.na_Both_spent
  have zc_Buyer:=T.cl_Buyer
  have zn_Buyer_world:=T.na_Buyer_world
  have zn_Buyer_standing:=T.na_Buyer_standing
  have zn_Buyer_spent:=T.na_Buyer_spent
  have zc_Changer:=T.cl_Changer
  have zn_Changer_world:=T.na_Changer_world
  have zn_Changer_standing:=T.na_Changer_standing
  have zn_Changer_spent:=T.na_Changer_spent
  have zc_Filler:=T.cl_Filler
  have zn_Filler_world:=T.na_Filler_world
  have zn_Filler_standing:=T.na_Filler_standing
  have zn_Filler_spent:=T.na_Filler_spent
  have zc_Front:=T.cl_Front
  have zn_Front_world:=T.na_Front_world
  have zn_Front_standing:=T.na_Front_standing
  have zn_Front_spent:=T.na_Front_spent
  have zc_Keeper:=T.cl_Keeper
  have zn_Keeper_world:=T.na_Keeper_world
  have zn_Keeper_standing:=T.na_Keeper_standing
  have zn_Keeper_spent:=T.na_Keeper_spent
  refine⟨_,(j02 (j12 (j0w (ptT (j1z (pv 1) T.cl_Shelf T.me_Shelf_is_state (Ns.ok_Shelf_is_state T) (hr.mono (by decide)) T.b_z4 .nil j0i (j00 (pv 2) j01)) (fun _=>rfl))) (j03 j4l) j0d)
   (j02 (j1b (pv 0) (pv 1) rfl)
   (j02 (j1b (pv 0) (pv 2) rfl)
   (j03 (j1b (pv 0) j05 rfl))))),?_⟩
  walk_at "v"
  refine⟨w,dw,tp,p,ss,rfl,hw,ht,hp,hN,fun H1 e1=>?_⟩
  walk_at "v"
  refine j2r (e1 _ _ hx) T.cl_Front T.na_Front_world (j1c rfl) fun H2 h2 b2=>?_
  walk_at "v"
  refine j2r h2 T.cl_Front T.na_Front_standing (j1c rfl) fun H3 h3 b3=>?_
  walk_at "v"
  refine j2r h3 T.cl_Front T.na_Front_spent (j1c rfl) fun H4 h4 b4=>?_
  exact hq H4 h4 (Ext.toBut e1 (But.tr (But.tr b2 b3) b4))
end Ns
namespace Ns
def j5x (a:Adr):Sp:=fun vs H Q _=>∃ x dx v,vs=[.ref x,v]∧H x=some (.ins a.c_Shelf dx [])∧∀ H',H' x=some (.ins a.c_Shelf dx [("things",v)])→But x H H'→Q .non H'
theorem ok_Shelf_init (T:Txt w K mg a):FnOk P w K mg base (CXU P w) 1 a.f_z32 a.d_z32 ["self","things"] (j5x a):=by
 refine T.F_z32.okU sc_z32 (fun vs H Q E h=>?_) (fun cdv A outer s H vs Q E hr h=>?_)
 ·obtain⟨x,dx,v,rfl,hx,hq⟩:=h
  rfl
 ·obtain⟨x,dx,v,rfl,hx,hq⟩:=h
  have zc_Shelf:=T.cl_Shelf
  have zn_Shelf_things:=T.na_Shelf_things
  refine⟨_,(j03 (j1b (pv 0) (pv 1) rfl)),?_⟩
  walk_at "v"
  refine j2r hx T.cl_Shelf T.na_Shelf_things (j1c rfl) fun H' h1 h2=>?_
  exact hq H' h1 h2
end Ns
namespace Ns
def j5y (a:Adr):Sp:=fun vs H Q E=>∃ (x dx:Addr) (v:V),vs=[.ref x,v]∧H x=some (.ins a.c_Front dx []) ∧
 ((∃ (p:Addr) (ss:List Str),v=.ref p∧H p=some (.tup (ss.map V.str))∧Names ss∧∀ H',ShelfAt a H' x ss ss 0→But x H H'→Q .non H') ∨
   (NoRow H v∧∀ d H',Ext H H'→H' d=some (.xd [("row",.non)])→E (.ref a.c_NoState) (some d) H'))
theorem ok_Front_init (T:Txt w K mg a):FnOk P w K mg base (CXU P w) 6 a.f_z30 a.d_z30 ["self","start"] (j5y a):=by
 refine T.F_z30.okX sc_z30 (fun vs H Q E h=>?_) (fun cdv A outer s H vs Q E hr h=>?_)
 ·obtain⟨x,dx,v,rfl,hx,h⟩:=h
  rfl
 ·obtain⟨x,dx,v,rfl,hx,h⟩:=h
  refine⟨_,(j02 (j12 (j0w (ptT (j09 (j1t T) (hr.mono (by decide)) (by rfl) T.m_z0 T.F_z0.kp T.b_z0 .nil j0i (j00 (pv 1) j01)) (fun _=>rfl))) (j03 (j19 j3w rfl (j32 (T.ek_NoState.em (.inr ⟨_,rfl⟩)) (j0g T) (hr.mono (by decide)) (by rfl) T.m_NoState T.b1_LateError_init T.w_LateError_init j0i))) j0d)
   (j03 (j2i (j2t (C:=a.c_Bound) (j1j (v:=V.ref a.c_Bound) (by rfl) T.m_Bound rfl) T.cm_Bound_init (Ns.ok_Rule_init T) (hr.mono (by decide)) T.b_z43 .nil j0i (j00 (pv 0) (j00 (j20 T.mk_Shelf (Ns.ok_Shelf_init T) (hr.mono (by decide)) (by rfl) T.m_Shelf T.b_z32 .nil j0i (j00 (pv 1) j01)) (j00 (pv 1) j01))))))),?_⟩
  rcases h with⟨p,ss,rfl,hp,hN,hq⟩ | ⟨h,hn⟩
  ·walk_at "v"
   refine⟨_,rfl,.inl ⟨p,ss,rfl,hp,hN,fun H1 e1=>?_⟩⟩
   have hx1:=e1 _ _ hx
   walk_at "v"
   intro w dw k1 k2 k3
   have nx:w≠x:=(j04 hx1 k1).symm
   refine⟨w,dw,.ref p,rfl,j0a,fun H2 h2 b2=>⟨rfl,?_⟩⟩
   have x2:Ext H1 H2:=fun b o hb=>b2 b o (j04 hb k1) (by rw[j0e (j04 hb k1),j0e (j04 hb k2)];exact hb)
   walk_at "v"
   have hp2:=x2 _ _ (e1 _ _ hp)
   refine⟨x,dx,w,dw,p,p,ss,rfl,x2 _ _ hx1,h2,hp2,hp2,hN,fun H3 h3 b3=>?_⟩
   have np:p≠x:=jij hp hx (by intro z;cases z)
   exact hq H3 ⟨dx,w,dw,p,p,h3,b3 _ _ nx h2,b3 _ _ np hp2,b3 _ _ np hp2⟩ (Ext.toBut (e1.tr x2) b3)
  ·walk_at "v"
   refine⟨_,rfl,.inr ⟨h,fun H1 e1=>?_⟩⟩
   walk_at "v"
   exact j1g T.ek_NoState (.inr ⟨_,rfl⟩) fun d H' _ q1 e2=>hn d H' (e1.tr e2) q1
end Ns
namespace Nl
structure NoSt (H:Hp) (p:Addr) (xs:List V):Prop where
 p:H p=some (.tup xs)
 k:∀ x∈xs,∃ k,HasK H x k
 n:(∃ x∈xs,plc x=false)∨∃ ns:List Int,xs=ns.map V.int∧¬ ns.Pairwise (·≤·)
theorem NoSt.mono {H H':Hp}{p:Addr}{xs:List V} (e:Ext H H') (h:NoSt H p xs):NoSt H' p xs:=⟨e _ _ h.p,fun x hx=>by obtain⟨k,hk⟩:=h.k x hx;exact⟨k,hk.mono e⟩,h.n⟩
def BadL (H:Hp) (v:V):Prop:=NoLen H v∨∃ (p:Addr) (xs:List V),v=.ref p∧1≤xs.length∧xs.length≤6∧NoSt H p xs
theorem BadL.mono {H H':Hp}{v:V} (e:Ext H H') (h:BadL H v):BadL H' v:=by
 rcases h with h | ⟨p,xs,h1,h2,h3,h4⟩
 ·exact .inl (h.mono e)
 ·exact .inr ⟨p,xs,h1,h2,h3,h4.mono e⟩
def j3q (a:Adr):Sp:=fun vs H Q _=>∃ (w dw p:Addr) (xs:List V),vs=[.ref w,.ref p]∧H w=some (.ins a.c_Line dw [("many",.int xs.length)])∧xs.length≤6∧((∃ ns:List Int,xs=ns.map V.int∧H p=some (.tup xs)∧Good ns∧∀ H',Ext H H'→Q (.bl true) H')∨(NoSt H p xs∧∀ H',Ext H H'→Q (.bl false) H'))
theorem ok_Line_is_state (T:Txt w K mg a):FnOk P w K mg base (CXU P w) 3 a.f_z9 a.d_z9 ["self","thing"] (j3q a):=by
 refine T.F_z9.okU sc_z9 (fun vs H Q E h=>?_) (fun cdv A outer s H vs Q E hr h=>?_)
 ·obtain⟨w,dw,p,xs,rfl,hw,h6,h⟩:=h
  rfl
 ·obtain⟨w,dw,p,xs,rfl,hw,h6,h⟩:=h
  have zc_Line:=T.cl_Line
  have zn_Line_many:=T.na_Line_many
  have zc_Store:=T.cl_Store
  have zn_Store_many:=T.na_Store_many
  have zc_Ways:=T.cl_Ways
  have zn_Ways_many:=T.na_Ways_many
  refine⟨_,(j02 (j12 (PW.pt (j58 (j0w (ptT (j08 j59 (by rfl) T.n_isinstance PyProof.Rows.boot_isinstance (j00 (pv 1) (j00 (j17 (v:=V.ty "tuple") (by rfl) T.n_tuple PyProof.Rows.boot_tuple rfl) j01))) (fun _=>rfl))) (j2a (j0h jim (j08 j24 (by rfl) T.n_len PySem.boot_len (j00 (pv 1) j01)) (j2d (pv 0) rfl) (j0j _))))) (j03 (j0c j4c)) j0d)
   (j02 (j12 (j0w (ptT (j08 (cAll rfl) (by rfl) T.n_all PyProof.Rows.boot_all (j00 (j1r (["place"]:List Str) ([]:List Str) [] rfl ⟨rfl,by decide +kernel,by decide +kernel,by rfl,trivial⟩ (j8z (pv 1)) (fun _ _ _ _=>⟨(j0p (i:=0) (by show ((["place"]:List Str)++([]:List Str)).Nodup;decide +kernel) rfl (by first | exact Or.inl rfl | exact Or.inr rfl)),(show PTs _ [] [] from trivial),(j09 (j4j T) (hr.mono (by decide)) (by rfl) T.m_z55 T.F_z55.kp T.b_z55 .nil j0i (j00 (pv 0) j01))⟩)) j01)) (fun _=>rfl))) (j03 (j0c j4c)) j0d)
   (j03 (j0c (j1l (oEq hr) (j0n jea (by rfl) T.n_list PyProof.Rows.boot_list (j00 (pv 1) j01)) (j08 j6o (by rfl) T.n_sorted PyProof.Rows.boot_sorted (j00 (pv 1) j01)) (j0j _)))))),?_⟩
  have hp:H p=some (.tup xs):=by
   rcases h with⟨_,_,h,_⟩ | ⟨h,_⟩
   ·exact h
   ·exact h.p
  have hk:∀ x∈xs,∃ k,HasK H x k:=by
   rcases h with⟨ns,rfl,_,_⟩ | ⟨h,_⟩
   ·intro x hx
    obtain⟨n,_,rfl⟩:=List.mem_map.mp hx
    exact⟨.int,rfl⟩
   ·exact h.k
  walk_at "v"
  refine j69 (HasK.t hp) ?_
  walk_at "v"
  refine j0m hp ?_
  walk_at "v"
  refine iteN (fun q=>(q rfl).elim) (fun _=>?_)
  walk_at "v"
  refine⟨p,rfl,⟨_,SqT.of hp⟩,fun acc hn _ _ _ _=>j4r (SqT.of hp) (by omega) hn (fun j ys _=>ys=((xs.take j).map plc).map V.bl) (by simp) (fun _ _ _ _ _ h=>h) (fun j ys H' _ h=>by rw[h,List.length_map,List.length_map,List.length_take];omega) ?_ ?_⟩
  ·rintro j y ys H2 hy e rfl Y N hY hN
   obtain⟨k,hky⟩:=hk y (List.mem_of_getElem? hy)
   refine j27 ?_
   walk_at "v"
   refine⟨y,k,rfl,hky.mono e,?_⟩
   refine hY _ _ Ext.rfl' ?_
   rw[List.take_add_one,hy]
   simp
  ·rintro ys H2 e ha rfl
   rw[List.take_of_length_le (Nat.le_refl _)] at ha
   walk_at "v"
   refine jd0 ha ?_
   rcases h with⟨ns,rfl,_,hg,hq⟩ | ⟨hno,hq⟩
   ·have ea:((ns.map V.int).map plc).all id=true:=by
     rw[List.all_eq_true]
     intro b hb
     obtain⟨v,hv,rfl⟩:=List.mem_map.mp hb
     obtain⟨n,hn',rfl⟩:=List.mem_map.mp hv
     have:=hg.pl n hn'
     exact decide_eq_true (by omega)
    rw[ea]
    rw[List.length_map] at h6
    walk_at "v"
    refine j33 (e _ _ hp) fun l H3 n3 h3 e3=>?_
    walk_at "v"
    refine jep (e3 _ _ (e _ _ hp)) (by omega) fun l2 ns' H4 n4 hpm hs h4 e4=>?_
    have:ns'=ns:=j8g hpm (List.Perm.refl _) hs hg.srt
    subst this
    walk_at "v"
    refine jek (e4 _ _ h3) h4 ?_
    rw[decide_eq_true rfl]
    exact hq H4 ((e.tr e3).tr e4)
   ·cases eb:(xs.map plc).all id with
    | false =>
     walk_at "v"
     exact hq H2 e
    | true =>
     rcases hno.n with⟨x,hx,nx⟩ | ⟨ns,rfl,hns⟩
     ·exfalso
      rw[List.all_eq_true] at eb
      have:=eb _ (List.mem_map.mpr ⟨x,hx,rfl⟩)
      rw[nx] at this
      cases this
     ·rw[List.length_map] at h6
      walk_at "v"
      refine j33 (e _ _ hp) fun l H3 n3 h3 e3=>?_
      walk_at "v"
      refine jep (e3 _ _ (e _ _ hp)) (by omega) fun l2 ns' H4 n4 hpm hs h4 e4=>?_
      walk_at "v"
      refine jek (e4 _ _ h3) h4 ?_
      rw[decide_eq_false (fun z=>hns (by rw[z];exact hs))]
      exact hq H4 ((e.tr e3).tr e4)
end Nl
namespace Nl
def sp_Rule_init (a:Adr):Sp:=fun vs H Q E=>∃ (x dx C w dw p:Addr) (xs:List V),vs=[.ref x,.ref w,.ref p]∧C=a.c_Both∧H x=some (.ins C dx [])∧H w=some (.ins a.c_Line dw [("many",.int xs.length)])∧xs.length≤6 ∧
 ((∃ ns:List Int,xs=ns.map V.int∧H p=some (.tup xs)∧Good ns∧∀ H',H' x=some (.ins C dx (lfl w p 0))→But x H H'→Q .non H') ∨
   (NoSt H p xs∧∀ d H',Ext H H'→H' d=some (.xd [("row",.non)])→E (.ref a.c_NoState) (some d) H'))
theorem ok_Rule_init (T:Txt w K mg a):FnOk P w K mg base (CXU P w) 4 a.f_z43 a.d_z43 ["self","world","start"] (sp_Rule_init a):=by
 refine T.F_z43.okX j8k (fun vs H Q E h=>?_) (fun cdv A outer s H vs Q E hr h=>?_)
 ·obtain⟨x,dx,C,w,dw,p,xs,rfl,hC,hx,hw,h6,h⟩:=h
  rfl
 ·obtain⟨x,dx,C,w,dw,p,xs,rfl,hC,hx,hw,h6,h⟩:=h
  have zc_Both:=T.cl_Both
  have zn_Both_world:=T.na_Both_world
  have zn_Both_standing:=T.na_Both_standing
  have zn_Both_spent:=T.na_Both_spent
  have zc_Buyer:=T.cl_Buyer
  have zn_Buyer_world:=T.na_Buyer_world
  have zn_Buyer_standing:=T.na_Buyer_standing
  have zn_Buyer_spent:=T.na_Buyer_spent
  have zc_Changer:=T.cl_Changer
  have zn_Changer_world:=T.na_Changer_world
  have zn_Changer_standing:=T.na_Changer_standing
  have zn_Changer_spent:=T.na_Changer_spent
  have zc_Filler:=T.cl_Filler
  have zn_Filler_world:=T.na_Filler_world
  have zn_Filler_standing:=T.na_Filler_standing
  have zn_Filler_spent:=T.na_Filler_spent
  have zc_Front:=T.cl_Front
  have zn_Front_world:=T.na_Front_world
  have zn_Front_standing:=T.na_Front_standing
  have zn_Front_spent:=T.na_Front_spent
  have zc_Keeper:=T.cl_Keeper
  have zn_Keeper_world:=T.na_Keeper_world
  have zn_Keeper_standing:=T.na_Keeper_standing
  have zn_Keeper_spent:=T.na_Keeper_spent
  refine⟨_,(j02 (j12 (j0w (ptT (j1z (pv 1) T.cl_Line T.me_Line_is_state (Nl.ok_Line_is_state T) (hr.mono (by decide)) T.b_z9 .nil j0i (j00 (pv 2) j01)) (fun _=>rfl))) (j03 (j19 j3w rfl (j32 (T.ek_NoState.em (.inr ⟨_,rfl⟩)) (j0g T) (hr.mono (by decide)) (by rfl) T.m_NoState T.b1_LateError_init T.w_LateError_init j0i))) j0d)
   (j02 (j1b (pv 0) (pv 1) rfl)
   (j02 (j1b (pv 0) (pv 2) rfl)
   (j03 (j1b (pv 0) j05 rfl))))),?_⟩
  rcases h with⟨ns,rfl,hp,hg,hq⟩ | ⟨hno,hn⟩
  ·walk_at "v"
   refine⟨w,dw,p,_,rfl,hw,h6,.inl ⟨ns,rfl,hp,hg,fun H1 e1=>?_⟩⟩
   subst hC
   ·walk_at "v"
    refine j2r (e1 _ _ hx) T.cl_Both T.na_Both_world (j1c rfl) fun H2 h2 b2=>?_
    walk_at "v"
    refine j2r h2 T.cl_Both T.na_Both_standing (j1c rfl) fun H3 h3 b3=>?_
    walk_at "v"
    refine j2r h3 T.cl_Both T.na_Both_spent (j1c rfl) fun H4 h4 b4=>?_
    exact hq H4 h4 (Ext.toBut e1 (But.tr (But.tr b2 b3) b4))
  ·walk_at "v"
   refine⟨w,dw,p,xs,rfl,hw,h6,.inr ⟨hno,fun H1 e1=>?_⟩⟩
   walk_at "v"
   exact j1g T.ek_NoState (.inr ⟨_,rfl⟩) fun d H' _ q1 e2=>hn d H' (e1.tr e2) q1
end Nl
namespace Nl
def j6y (a:Adr):Sp:=fun vs H Q _=>∃ x dx v,vs=[.ref x,v]∧H x=some (.ins a.c_Line dx [])∧∀ H',H' x=some (.ins a.c_Line dx [("many",v)])→But x H H'→Q .non H'
theorem ok_Line_init (T:Txt w K mg a):FnOk P w K mg base (CXU P w) 1 a.f_z42 a.d_z42 ["self","many"] (j6y a):=by
 refine T.F_z42.okU sc_z42 (fun vs H Q E h=>?_) (fun cdv A outer s H vs Q E hr h=>?_)
 ·obtain⟨x,dx,v,rfl,hx,hq⟩:=h
  rfl
 ·obtain⟨x,dx,v,rfl,hx,hq⟩:=h
  have zc_Line:=T.cl_Line
  have zn_Line_many:=T.na_Line_many
  have zc_Store:=T.cl_Store
  have zn_Store_many:=T.na_Store_many
  have zc_Ways:=T.cl_Ways
  have zn_Ways_many:=T.na_Ways_many
  refine⟨_,(j03 (j1b (pv 0) (pv 1) rfl)),?_⟩
  walk_at "v"
  refine j2r hx T.cl_Line T.na_Line_many (j1c rfl) fun H' h1 h2=>?_
  exact hq H' h1 h2
end Nl
namespace Nl
def jaq (a:Adr):Sp:=fun vs H Q E=>∃ v:V,vs=[v]∧((∃ (p:Addr) (xs:List V),v=.ref p∧H p=some (.tup xs)∧1≤xs.length∧xs.length≤6∧∀ w dw H',H w=none→H' w=some (.ins a.c_Line dw [("many",.int xs.length)])→Ext H H'→Q (.ref w) H') ∨
 (NoLen H v∧∀ d H',Ext H H'→H' d=some (.xd [("row",.non)])→E (.ref a.c_NoState) (some d) H'))
theorem ok_line_of (T:Txt w K mg a):FnOk P w K mg base (CXU P w) 3 a.f_z61 a.d_z61 ["start"] (jaq a):=by
 refine T.F_z61.okX sc_z61 (fun vs H Q E h=>?_) (fun cdv A outer s H vs Q E hr h=>?_)
 ·obtain⟨v,rfl,h⟩:=h
  rfl
 ·obtain⟨v,rfl,h⟩:=h
  refine⟨_,(j02 (j12 (PW.pt (j58 (j0w (ptT (j08 j59 (by rfl) T.n_isinstance PyProof.Rows.boot_isinstance (j00 (pv 0) (j00 (j17 (v:=V.ty "tuple") (by rfl) T.n_tuple PyProof.Rows.boot_tuple rfl) j01))) (fun _=>rfl))) (j2a (j0w (j6e oLeW oLeW j05 (j08 j24 (by rfl) T.n_len PySem.boot_len (j00 (pv 0) j01)) j05))))) (j03 (j19 j3w rfl (j32 (T.ek_NoState.em (.inr ⟨_,rfl⟩)) (j0g T) (hr.mono (by decide)) (by rfl) T.m_NoState T.b1_LateError_init T.w_LateError_init j0i))) j0d)
   (j03 (j0c (j20 T.mk_Line (Nl.ok_Line_init T) (hr.mono (by decide)) (by rfl) T.m_Line T.b_z42 .nil j0i (j00 (j08 j24 (by rfl) T.n_len PySem.boot_len (j00 (pv 0) j01)) j01))))),?_⟩
  rcases h with⟨p,xs,rfl,hp,h1,h6,hq⟩ | ⟨⟨k,hk,nk⟩ | ⟨p,xs,rfl,hp,hl⟩,hn⟩
  ·walk_at "v"
   refine j69 (HasK.t hp) ?_
   walk_at "v"
   refine j0m hp ?_
   walk_at "v"
   refine iteD (fun _=>?_) (fun z=>absurd z (fun z=>z (by omega)))
   walk_at "v"
   refine iteN (fun z=>absurd z (fun z=>z (by omega))) (fun _=>?_)
   walk_at "v"
   refine j0m hp ?_
   walk_at "v"
   intro w dw n1 n2 n3
   refine⟨w,dw,_,rfl,j0a,fun H1 h1' b1=>⟨rfl,hq w dw H1 n1 h1' fun b o hb=>?_⟩⟩
   have nb:b≠w:=j04 hb n1
   have nd:b≠dw:=j04 hb n2
   exact b1 b o nb (by rw[j0e nb,j0e nd];exact hb)
  ·walk_at "v"
   refine j69 hk ?_
   have e:(k == .tup)=false:=by cases k <;> first | rfl | exact (nk rfl).elim
   rw[e]
   walk_at "v"
   exact j1g T.ek_NoState (.inr ⟨_,rfl⟩) fun d H' _ q1 e2=>hn d H' e2 q1
  ·walk_at "v"
   refine j69 (HasK.t hp) ?_
   walk_at "v"
   refine j0m hp ?_
   walk_at "v"
   refine iteD (fun c1=>?_) (fun c1=>?_)
   ·walk_at "v"
    refine iteN (fun c2=>?_) (fun c2=>absurd hl (fun z=>z (by omega)))
    walk_at "v"
    exact j1g T.ek_NoState (.inr ⟨_,rfl⟩) fun d H' _ q1 e2=>hn d H' e2 q1
   ·walk_at "v"
    exact j1g T.ek_NoState (.inr ⟨_,rfl⟩) fun d H' _ q1 e2=>hn d H' e2 q1
end Nl
namespace Nl
def j6z (a:Adr):Sp:=fun vs H Q E=>∃ (x dx:Addr) (v:V),vs=[.ref x,v]∧H x=some (.ins a.c_Both dx []) ∧
 ((∃ (p:Addr) (ns:List Int),v=.ref p∧H p=some (.tup (ns.map V.int))∧Good ns∧∀ H',LineAt a a.c_Both H' x ns 0→But x H H'→Q .non H') ∨
   (BadL H v∧∀ d H',Ext H H'→H' d=some (.xd [("row",.non)])→E (.ref a.c_NoState) (some d) H'))
theorem ok_Both_init (T:Txt w K mg a):FnOk P w K mg base (CXU P w) 6 a.f_z40 a.d_z40 ["self","start"] (j6z a):=by
 refine T.F_z40.okX sc_z40 (fun vs H Q E h=>?_) (fun cdv A outer s H vs Q E hr h=>?_)
 ·obtain⟨x,dx,v,rfl,hx,h⟩:=h
  rfl
 ·obtain⟨x,dx,v,rfl,hx,h⟩:=h
  refine⟨_,(j03 (j2i (j2t (C:=a.c_Bound) (j1j (v:=V.ref a.c_Bound) (by rfl) T.m_Bound rfl) T.cm_Bound_init (Nl.ok_Rule_init T) (hr.mono (by decide)) T.b_z43 .nil (jb1 j3w) (j00 (pv 0) (j00 (j09 (Nl.ok_line_of T) (hr.mono (by decide)) (by rfl) T.m_z61 T.F_z61.kp T.b_z61 .nil (jb1 j3w) (j00 (pv 1) j01)) (j00 (pv 1) j01)))))),?_⟩
  have cls16:a.c_Both=a.c_Both:=rfl
  rcases h with⟨p,ns,rfl,hp,hg,hq⟩ | ⟨h,hn⟩
  ·have g1:=hg.lo
   have g6:=hg.hi
   have ll:(ns.map V.int).length=ns.length:=List.length_map _
   walk_at "v"
   refine⟨_,rfl,.inl ⟨p,_,rfl,hp,by omega,by omega,fun w dw H1 nw hw e1=>?_⟩⟩
   have nx:w≠x:=(j04 hx nw).symm
   have np:p≠x:=jij hp hx (by intro z;cases z)
   walk_at "v"
   refine⟨x,dx,_,w,dw,p,_,rfl,cls16,e1 _ _ hx,hw,by omega,.inl ⟨ns,rfl,e1 _ _ hp,hg,fun H2 h2 b2=>?_⟩⟩
   rw[ll] at hw
   exact hq H2 ⟨dx,w,dw,p,h2,b2 _ _ nx hw,b2 _ _ np (e1 _ _ hp)⟩ (Ext.toBut e1 b2)
  ·rcases h with h | ⟨p,xs,rfl,l1,l6,hno⟩
   ·walk_at "v"
    exact⟨v,rfl,.inr ⟨h,hn⟩⟩
   ·walk_at "v"
    refine⟨_,rfl,.inl ⟨p,xs,rfl,hno.p,l1,l6,fun w dw H1 nw hw e1=>?_⟩⟩
    walk_at "v"
    exact⟨x,dx,_,w,dw,p,xs,rfl,cls16,e1 _ _ hx,hw,l6,.inr ⟨hno.mono e1,fun d H' e2 q2=>hn d H' (e1.tr e2) q2⟩⟩
end Nl
def j8p:List V→List Int
 | []=>[]
 | .int n :: r=>n :: j8p r
 | _ :: r=>j8p r
def j47:List V→List Str
 | []=>[]
 | .str z :: r=>z :: j47 r
 | _ :: r=>j47 r
def srtB:List Int→Bool
 | a :: b :: r=>decide (a≤b) && srtB (b :: r)
 | _=>true
def ndB:List Str→Bool
 | []=>true
 | z :: r=>!decide (z∈r) && ndB r
theorem jdk:∀ {l:List Int},l.Pairwise (·≤·)→srtB l=true
 | [],_=>rfl
 | [_],_=>rfl
 | a :: b :: r,h=>by
  rw[List.pairwise_cons] at h
  show (decide (a≤b) && srtB (b :: r))=true
  rw[decide_eq_true (h.1 b List.mem_cons_self),jdk h.2]
  rfl
theorem ji3:∀ {l:List Str},l.Nodup→ndB l=true
 | [],_=>rfl
 | z :: r,h=>by
  rw[List.nodup_cons] at h
  show (!decide (z∈r) && ndB r)=true
  rw[decide_eq_false h.1,ji3 h.2]
  rfl
theorem jar:∀ {xs:List V},xs.all plc=true→xs=(j8p xs).map V.int
 | [],_=>rfl
 | x :: r,h=>by
  rw[List.all_cons,Bool.and_eq_true] at h
  cases x with
  | int n=>show V.int n :: r=V.int n :: (j8p r).map V.int;rw[← jar h.2]
  | _=>cases h.1
theorem jdl:∀ {xs:List V},xs.all nmV=true→xs=(j47 xs).map V.str∧∀ s∈j47 xs,nmS s=true
 | [],_=>⟨rfl,fun s hs=>by cases hs⟩
 | x :: r,h=>by
  rw[List.all_cons,Bool.and_eq_true] at h
  obtain⟨i1,i2⟩:=jdl h.2
  cases x with
  | str z=>exact⟨by show V.str z :: r=V.str z :: (j47 r).map V.str;rw[← i1],fun s hs=>(List.mem_cons.mp hs).elim (fun e=>by rw[e];exact h.1) (i2 s)⟩
  | _=>cases h.1
def opL (xs:List V):Bool:=(decide (1≤xs.length) && decide (xs.length≤6)) && xs.all plc && srtB (j8p xs)
def opN (xs:List V):Bool:=(decide (1≤xs.length) && decide (xs.length≤8)) && xs.all nmV && ndB (j47 xs)
theorem ji4 {H:Hp}{p:Addr}{xs:List V} (hp:H p=some (.tup xs)) (hf:∀ x∈xs,FlV x) (h:opL xs=false):Nl.BadL H (.ref p):=by
 by_cases c:1≤xs.length∧xs.length≤6
 ·refine .inr ⟨p,xs,rfl,c.1,c.2,hp,fun x hx=>(hf x hx).hk,?_⟩
  unfold opL at h
  rw[decide_eq_true c.1,decide_eq_true c.2,Bool.true_and,Bool.true_and] at h
  cases ha:xs.all plc with
  | false =>
   rw[List.all_eq_false] at ha
   obtain⟨x,hx,hb⟩:=ha
   exact .inl ⟨x,hx,by simpa using hb⟩
  | true =>
   rw[ha,Bool.true_and] at h
   refine .inr ⟨j8p xs,jar ha,fun q=>?_⟩
   rw[jdk q] at h
   cases h
 ·exact .inl (.inr ⟨p,xs,rfl,hp,c⟩)
theorem jdm {H:Hp}{p:Addr}{xs:List V} (hp:H p=some (.tup xs)) (hl:xs.length≤1000) (hf:∀ x∈xs,FlV x) (h:opN xs=false):NoRow H (.ref p):=by
 cases ha:xs.all nmV with
 | false =>
  rw[List.all_eq_false] at ha
  obtain⟨x,hx,hb⟩:=ha
  exact .inl (.inr (.inl ⟨p,xs,rfl,hp,hl,fun y hy=>(hf y hy).item,x,hx,by simpa using hb⟩))
 | true =>
  obtain⟨e,hn⟩:=jdl ha
  have el:xs.length=(j47 xs).length:=by have:=congrArg List.length e;rwa [List.length_map] at this
  rw[e] at hp
  by_cases nd:(j47 xs).Nodup
  ·refine .inr ⟨p,j47 xs,rfl,hp,by omega,hn,nd,fun c=>?_⟩
   unfold opN at h
   rw[ha,ji3 nd,el,decide_eq_true c.1,decide_eq_true c.2] at h
   cases h
  ·exact .inl (.inr (.inr ⟨p,j47 xs,rfl,hp,by omega,hn,nd⟩))
theorem ji5 {n:Nat}{t h:Int} (n1:1≤n) (n8:n≤8) (h0:0≤h) (h1:h < n) (t0:0≤t) (t1:t≤1000000000000000000):Nw.okC (.int (n:Nat)) (.int t) (.int h)=true:=by
 show ((decide (1≤(n:Int)) && decide ((n:Int)≤8)) && (decide (0≤t) && decide (t≤1000000000000000000)) && (decide (0≤h) && decide (h < (n:Int))))=true
 rw[decide_eq_true (show 1≤(n:Int) by omega),decide_eq_true (show (n:Int)≤8 by omega),decide_eq_true t0,decide_eq_true t1,decide_eq_true h0,decide_eq_true h1]
 rfl
def BadS (wd:Str) (xs:List V):Prop:=(wd=Str.ofString "line"∧opL xs=false)∨((wd=Str.ofString "shelf"∨wd=Str.ofString "store")∧opN xs=false)∨(wd=Str.ofString "hire"∧∃ x,xs=[x]∧Nh.okB x=false)∨(wd=Str.ofString "bags"∧∃ x,xs=[x]∧fot 1000000000000000000 x=false)∨(wd=Str.ofString "ways"∧∃ x y z,xs=[x,y,z]∧Nw.okC x y z=false)
def jas (a:Adr):Sp:=fun vs H Q E=>∃ (wd:Str) (p:Addr),vs=[.str wd,.ref p]∧((∃ g:G83,GAt H g wd p∧∀ r H',H r=none→g.rs.at_ a H' r→Ext H H'→Q (.ref r) H') ∨
 ∃ xs,H p=some (.tup xs)∧xs.length≤1000∧(∀ x∈xs,FlV x)∧BadS wd xs∧∀ d H',Ext H H'→H' d=some (.xd [("row",.non)])→E (.ref a.c_NoState) (some d) H')
theorem j5z (T:Txt w K mg a):FnOk P w K mg base (CXU P w) 8 a.f_z62 a.d_z62 ["word","start"] (jas a):=by
 refine T.F_z62.okX sc_z62 (fun vs H Q E h=>?_) (fun cdv A outer s H vs Q E hr h=>?_)
 ·obtain⟨wd,p,rfl,h⟩:=h
  rfl
 ·obtain⟨wd,p,rfl,h⟩:=h
  refine⟨_,(j02 (j12 (j0h (oEq hr) (pv 0) j06 (j0j _)) (j03 (j0c (j20 T.mk_Both (Nl.ok_Both_init T) (hr.mono (by decide)) (by rfl) T.m_Both T.b_z40 .nil (jb1 j3w) (j00 (pv 1) j01)))) j0d)
   (j02 (j12 (j0h (oEq hr) (pv 0) j06 (j0j _)) (j03 (j0c (j20 T.mk_Front (Ns.ok_Front_init T) (hr.mono (by decide)) (by rfl) T.m_Front T.b_z30 .nil (jb1 j3w) (j00 (pv 1) j01)))) j0d)
   (j02 (j12 (j0h (oEq hr) (pv 0) j06 (j0j _)) (j03 (j0c (j20 T.mk_Buyer (Nh.ok_Buyer_init T) (hr.mono (by decide)) (by rfl) T.m_Buyer T.b_z29 .nil (jb1 j3w) (j00 (j1h oIx (pv 1) j05 (fun _ _=>rfl)) j01)))) j0d)
   (j02 (j12 (j0h (oEq hr) (pv 0) j06 (j0j _)) (j03 (j0c (j20 T.mk_Changer (Nw.ok_Changer_init T) (hr.mono (by decide)) (by rfl) T.m_Changer T.b_z15 .nil (jb1 j3w) (j00 (j1h oIx (pv 1) j05 (fun _ _=>rfl)) (j00 (j1h oIx (pv 1) j05 (fun _ _=>rfl)) (j00 (j1h oIx (pv 1) j05 (fun _ _=>rfl)) j01)))))) j0d)
   (j02 (j12 (j0h (oEq hr) (pv 0) j06 (j0j _)) (j03 (j0c (j20 T.mk_Keeper (Nk.ok_Keeper_init T) (hr.mono (by decide)) (by rfl) T.m_Keeper T.b_z24 .nil (jb1 j3w) (j00 (pv 1) j01)))) j0d)
   (j03 (j0c (j20 T.mk_Filler (Nb.ok_Filler_init T) (hr.mono (by decide)) (by rfl) T.m_Filler T.b_z23 .nil (jb1 j3w) (j00 (j1h oIx (pv 1) j05 (fun _ _=>rfl)) j01))))))))),?_⟩
  rcases h with⟨g,⟨hwd,hp,hok⟩,hq⟩ | ⟨xs,hp,hl,hf,hbad,hn⟩
  ·cases g with
   | line ns =>
    have hwd:wd=Str.ofString "line":=hwd
    walk_at "v"
    refine j0b ?_
    rw[show decide (wd=Str.ofString "line")=true by rw[hwd];decide]
    walk_at "v"
    intro r dr k1 k2 k3
    have y1:Ext H (upd (upd H dr (.own r)) r (.ins a.c_Both dr [])):=fun b o hb=>by rw[j0e (j04 hb k1),j0e (j04 hb k2)];exact hb
    refine⟨r,dr,.ref p,rfl,j0a,.inl ⟨p,ns,rfl,y1 _ _ hp,hok,fun H2 B2 b2=>⟨rfl,?_⟩⟩⟩
    exact hq r H2 k1 B2 (fun b o h=>b2 b o (j04 h k1) (y1 _ _ h))
   | shelf ss =>
    have hwd:wd=Str.ofString "shelf":=hwd
    walk_at "v"
    refine j0b ?_
    rw[show decide (wd=Str.ofString "line")=false by rw[hwd];decide]
    walk_at "v"
    refine j0b ?_
    rw[show decide (wd=Str.ofString "shelf")=true by rw[hwd];decide]
    walk_at "v"
    intro r dr k1 k2 k3
    have y1:Ext H (upd (upd H dr (.own r)) r (.ins a.c_Front dr [])):=fun b o hb=>by rw[j0e (j04 hb k1),j0e (j04 hb k2)];exact hb
    refine⟨r,dr,.ref p,rfl,j0a,.inl ⟨p,ss,rfl,y1 _ _ hp,hok,fun H2 B2 b2=>⟨rfl,?_⟩⟩⟩
    exact hq r H2 k1 B2 (fun b o h=>b2 b o (j04 h k1) (y1 _ _ h))
   | hire W =>
    obtain⟨w1,w2⟩:=hok
    have hwd:wd=Str.ofString "hire":=hwd
    walk_at "v"
    refine j0b ?_
    rw[show decide (wd=Str.ofString "line")=false by rw[hwd];decide]
    walk_at "v"
    refine j0b ?_
    rw[show decide (wd=Str.ofString "shelf")=false by rw[hwd];decide]
    walk_at "v"
    refine j0b ?_
    rw[show decide (wd=Str.ofString "hire")=true by rw[hwd];decide]
    walk_at "v"
    refine j11 hp rfl ?_
    walk_at "v"
    intro r dr k1 k2 k3
    have y1:Ext H (upd (upd H dr (.own r)) r (.ins a.c_Buyer dr [])):=fun b o hb=>by rw[j0e (j04 hb k1),j0e (j04 hb k2)];exact hb
    refine⟨r,dr,.int W,.int,rfl,j0a,rfl,fun _ W' e H2 B2 b2=>⟨rfl,?_⟩,fun z=>absurd z (by rw[Nh.okB_yes w1 w2];decide)⟩
    cases e
    exact hq r H2 k1 B2 (fun b o h=>b2 b o (j04 h k1) (y1 _ _ h))
   | ways n t h =>
    obtain⟨n1,n8,h0,h1,t0,t1⟩:=hok
    have hwd:wd=Str.ofString "ways":=hwd
    walk_at "v"
    refine j0b ?_
    rw[show decide (wd=Str.ofString "line")=false by rw[hwd];decide]
    walk_at "v"
    refine j0b ?_
    rw[show decide (wd=Str.ofString "shelf")=false by rw[hwd];decide]
    walk_at "v"
    refine j0b ?_
    rw[show decide (wd=Str.ofString "hire")=false by rw[hwd];decide]
    walk_at "v"
    refine j0b ?_
    rw[show decide (wd=Str.ofString "ways")=true by rw[hwd];decide]
    walk_at "v"
    refine j11 hp rfl ?_
    walk_at "v"
    refine j11 hp rfl ?_
    walk_at "v"
    refine j11 hp rfl ?_
    walk_at "v"
    intro r dr k1 k2 k3
    have y1:Ext H (upd (upd H dr (.own r)) r (.ins a.c_Changer dr [])):=fun b o hb=>by rw[j0e (j04 hb k1),j0e (j04 hb k2)];exact hb
    refine⟨r,dr,.int (n:Nat),.int t,.int h,.int,.int,.int,rfl,j0a,rfl,rfl,rfl,fun _ n' t' h' en et eh H2 B2 b2=>⟨rfl,?_⟩,fun z=>absurd z (by rw[ji5 n1 n8 h0 h1 t0 t1];decide)⟩
    cases en
    cases et
    cases eh
    exact hq r H2 k1 B2 (fun b o h=>b2 b o (j04 h k1) (y1 _ _ h))
   | store ss =>
    have hwd:wd=Str.ofString "store":=hwd
    walk_at "v"
    refine j0b ?_
    rw[show decide (wd=Str.ofString "line")=false by rw[hwd];decide]
    walk_at "v"
    refine j0b ?_
    rw[show decide (wd=Str.ofString "shelf")=false by rw[hwd];decide]
    walk_at "v"
    refine j0b ?_
    rw[show decide (wd=Str.ofString "hire")=false by rw[hwd];decide]
    walk_at "v"
    refine j0b ?_
    rw[show decide (wd=Str.ofString "ways")=false by rw[hwd];decide]
    walk_at "v"
    refine j0b ?_
    rw[show decide (wd=Str.ofString "store")=true by rw[hwd];decide]
    walk_at "v"
    intro r dr k1 k2 k3
    have y1:Ext H (upd (upd H dr (.own r)) r (.ins a.c_Keeper dr [])):=fun b o hb=>by rw[j0e (j04 hb k1),j0e (j04 hb k2)];exact hb
    refine⟨r,dr,.ref p,rfl,j0a,.inl ⟨p,ss,rfl,y1 _ _ hp,hok,fun H2 B2 b2=>⟨rfl,?_⟩⟩⟩
    exact hq r H2 k1 B2 (fun b o h=>b2 b o (j04 h k1) (y1 _ _ h))
   | bags R =>
    obtain⟨r1,r2⟩:=hok
    have hwd:wd=Str.ofString "bags":=hwd
    walk_at "v"
    refine j0b ?_
    rw[show decide (wd=Str.ofString "line")=false by rw[hwd];decide]
    walk_at "v"
    refine j0b ?_
    rw[show decide (wd=Str.ofString "shelf")=false by rw[hwd];decide]
    walk_at "v"
    refine j0b ?_
    rw[show decide (wd=Str.ofString "hire")=false by rw[hwd];decide]
    walk_at "v"
    refine j0b ?_
    rw[show decide (wd=Str.ofString "ways")=false by rw[hwd];decide]
    walk_at "v"
    refine j0b ?_
    rw[show decide (wd=Str.ofString "store")=false by rw[hwd];decide]
    walk_at "v"
    refine j11 hp rfl ?_
    walk_at "v"
    intro r dr k1 k2 k3
    have y1:Ext H (upd (upd H dr (.own r)) r (.ins a.c_Filler dr [])):=fun b o hb=>by rw[j0e (j04 hb k1),j0e (j04 hb k2)];exact hb
    refine⟨r,dr,.int R,.int,rfl,j0a,rfl,fun _ R' e H2 B2 b2=>⟨rfl,?_⟩,fun z=>absurd z (by rw[Nb.fot_yes r1 r2];decide)⟩
    cases e
    exact hq r H2 k1 ⟨[],B2,.refl _,.nil⟩ (fun b o h=>b2 b o (j04 h k1) (y1 _ _ h))
  ·rcases hbad with⟨hwd,hb⟩ | ⟨hwd | hwd,hb⟩ | ⟨hwd,x,rfl,hb⟩ | ⟨hwd,x,rfl,hb⟩ | ⟨hwd,x,y,z,rfl,hb⟩
   ·walk_at "v"
    refine j0b ?_
    rw[show decide (wd=Str.ofString "line")=true by rw[hwd];decide]
    walk_at "v"
    intro r dr k1 k2 k3
    have y1:Ext H (upd (upd H dr (.own r)) r (.ins a.c_Both dr [])):=fun b o hb=>by rw[j0e (j04 hb k1),j0e (j04 hb k2)];exact hb
    refine⟨r,dr,.ref p,rfl,j0a,.inr ⟨(ji4 hp hf hb).mono y1,fun d H2 e2 q2=>?_⟩⟩
    exact hn d H2 (y1.tr e2) q2
   ·walk_at "v"
    refine j0b ?_
    rw[show decide (wd=Str.ofString "line")=false by rw[hwd];decide]
    walk_at "v"
    refine j0b ?_
    rw[show decide (wd=Str.ofString "shelf")=true by rw[hwd];decide]
    walk_at "v"
    intro r dr k1 k2 k3
    have y1:Ext H (upd (upd H dr (.own r)) r (.ins a.c_Front dr [])):=fun b o hb=>by rw[j0e (j04 hb k1),j0e (j04 hb k2)];exact hb
    refine⟨r,dr,.ref p,rfl,j0a,.inr ⟨(jdm hp hl hf hb).mono y1,fun d H2 e2 q2=>?_⟩⟩
    exact hn d H2 (y1.tr e2) q2
   ·walk_at "v"
    refine j0b ?_
    rw[show decide (wd=Str.ofString "line")=false by rw[hwd];decide]
    walk_at "v"
    refine j0b ?_
    rw[show decide (wd=Str.ofString "shelf")=false by rw[hwd];decide]
    walk_at "v"
    refine j0b ?_
    rw[show decide (wd=Str.ofString "hire")=false by rw[hwd];decide]
    walk_at "v"
    refine j0b ?_
    rw[show decide (wd=Str.ofString "ways")=false by rw[hwd];decide]
    walk_at "v"
    refine j0b ?_
    rw[show decide (wd=Str.ofString "store")=true by rw[hwd];decide]
    walk_at "v"
    intro r dr k1 k2 k3
    have y1:Ext H (upd (upd H dr (.own r)) r (.ins a.c_Keeper dr [])):=fun b o hb=>by rw[j0e (j04 hb k1),j0e (j04 hb k2)];exact hb
    refine⟨r,dr,.ref p,rfl,j0a,.inr ⟨(jdm hp hl hf hb).mono y1,fun d H2 e2 q2=>?_⟩⟩
    exact hn d H2 (y1.tr e2) q2
   ·obtain⟨kx,hkx⟩:=(hf x List.mem_cons_self).hk (H:=H)
    walk_at "v"
    refine j0b ?_
    rw[show decide (wd=Str.ofString "line")=false by rw[hwd];decide]
    walk_at "v"
    refine j0b ?_
    rw[show decide (wd=Str.ofString "shelf")=false by rw[hwd];decide]
    walk_at "v"
    refine j0b ?_
    rw[show decide (wd=Str.ofString "hire")=true by rw[hwd];decide]
    walk_at "v"
    refine j11 hp rfl ?_
    walk_at "v"
    intro r dr k1 k2 k3
    have y1:Ext H (upd (upd H dr (.own r)) r (.ins a.c_Buyer dr [])):=fun b o hb=>by rw[j0e (j04 hb k1),j0e (j04 hb k2)];exact hb
    refine⟨r,dr,x,kx,rfl,j0a,hkx.mono y1,(fun z=>by rw[hb] at z;cases z),fun _ d H2 e2 q2=>?_⟩
    exact hn d H2 (y1.tr e2) q2
   ·obtain⟨kx,hkx⟩:=(hf x List.mem_cons_self).hk (H:=H)
    walk_at "v"
    refine j0b ?_
    rw[show decide (wd=Str.ofString "line")=false by rw[hwd];decide]
    walk_at "v"
    refine j0b ?_
    rw[show decide (wd=Str.ofString "shelf")=false by rw[hwd];decide]
    walk_at "v"
    refine j0b ?_
    rw[show decide (wd=Str.ofString "hire")=false by rw[hwd];decide]
    walk_at "v"
    refine j0b ?_
    rw[show decide (wd=Str.ofString "ways")=false by rw[hwd];decide]
    walk_at "v"
    refine j0b ?_
    rw[show decide (wd=Str.ofString "store")=false by rw[hwd];decide]
    walk_at "v"
    refine j11 hp rfl ?_
    walk_at "v"
    intro r dr k1 k2 k3
    have y1:Ext H (upd (upd H dr (.own r)) r (.ins a.c_Filler dr [])):=fun b o hb=>by rw[j0e (j04 hb k1),j0e (j04 hb k2)];exact hb
    refine⟨r,dr,x,kx,rfl,j0a,hkx.mono y1,(fun z=>by rw[hb] at z;cases z),fun _ d H2 e2 q2=>?_⟩
    exact hn d H2 (y1.tr e2) q2
   ·obtain⟨kx,hkx⟩:=(hf x List.mem_cons_self).hk (H:=H)
    obtain⟨ky,hky⟩:=(hf y (by simp)).hk (H:=H)
    obtain⟨kz,hkz⟩:=(hf z (by simp)).hk (H:=H)
    walk_at "v"
    refine j0b ?_
    rw[show decide (wd=Str.ofString "line")=false by rw[hwd];decide]
    walk_at "v"
    refine j0b ?_
    rw[show decide (wd=Str.ofString "shelf")=false by rw[hwd];decide]
    walk_at "v"
    refine j0b ?_
    rw[show decide (wd=Str.ofString "hire")=false by rw[hwd];decide]
    walk_at "v"
    refine j0b ?_
    rw[show decide (wd=Str.ofString "ways")=true by rw[hwd];decide]
    walk_at "v"
    refine j11 hp rfl ?_
    walk_at "v"
    refine j11 hp rfl ?_
    walk_at "v"
    refine j11 hp rfl ?_
    walk_at "v"
    intro r dr k1 k2 k3
    have y1:Ext H (upd (upd H dr (.own r)) r (.ins a.c_Changer dr [])):=fun b o hb=>by rw[j0e (j04 hb k1),j0e (j04 hb k2)];exact hb
    refine⟨r,dr,x,y,z,kx,ky,kz,rfl,j0a,hkx.mono y1,hky.mono y1,hkz.mono y1,(fun c=>by rw[hb] at c;cases c),fun _ d H2 b2 q2=>?_⟩
    exact hn d H2 (fun b o h=>b2 b o (j04 h k1) (y1 _ _ h)) q2
def j52 (a:Adr):Sp:=fun vs H Q _=>∃ (g:G83) (wd:Str) (p:Addr),vs=[.str wd,.ref p]∧GAt H g wd p∧∀ t w v H',H' t=some (.tup [.ref w,v])→g.rs.wo a H' w→g.rs.st H' v→Ext H H'→Q (.ref t) H'
theorem j53 (T:Txt w K mg a):FnOk P w K mg base (CXU P w) 9 a.f_z28 a.d_z28 ["word","start"] (j52 a):=by
 refine T.F_z28.okU jhl (fun vs H Q E h=>?_) (fun cdv A outer s H vs Q E hr h=>?_)
 ·obtain⟨g,wd,p,rfl,hg,hq⟩:=h
  rfl
 ·obtain⟨g,wd,p,rfl,hg,hq⟩:=h
  have zc_Both:=T.cl_Both
  have zn_Both_world:=T.na_Both_world
  have zc_Buyer:=T.cl_Buyer
  have zn_Buyer_world:=T.na_Buyer_world
  have zc_Changer:=T.cl_Changer
  have zn_Changer_world:=T.na_Changer_world
  have zc_Filler:=T.cl_Filler
  have zn_Filler_world:=T.na_Filler_world
  have zc_Front:=T.cl_Front
  have zn_Front_world:=T.na_Front_world
  have zc_Keeper:=T.cl_Keeper
  have zn_Keeper_world:=T.na_Keeper_world
  refine⟨_,(j02 (j0l (i:=2) jhl.nd rfl (by first | exact Or.inl rfl | exact Or.inr rfl) (j09 (j5z T) (hr.mono (by decide)) (by rfl) T.m_z62 T.F_z62.kp T.b_z62 .nil j0i (j00 (pv 0) (j00 (pv 1) j01))))
   (j03 (j0c (j2e (j00 (j2d (pv 2) rfl) (j00 (j3z (j2s (pv 2) T.cl_Both T.me_Both_state (Nl.ok_Rule_state T) (hr.mono (by decide)) T.b_z31 .nil j0i) (j3z (j2s (pv 2) T.cl_Front T.me_Front_state (Ns.ok_Rule_state T) (hr.mono (by decide)) T.b_z31 .nil j0i) (j3z (j2s (pv 2) T.cl_Buyer T.me_Buyer_state (Nh.ok_Rule_state T) (hr.mono (by decide)) T.b_z31 .nil j0i) (j3z (j2s (pv 2) T.cl_Changer T.me_Changer_state (Nw.ok_Rule_state T) (hr.mono (by decide)) T.b_z31 .nil j0i) (j3z (j2s (pv 2) T.cl_Keeper T.me_Keeper_state (Nk.ok_Rule_state T) (hr.mono (by decide)) T.b_z31 .nil j0i) (j2s (pv 2) T.cl_Filler T.me_Filler_state (Nb.ok_Rule_state T) (hr.mono (by decide)) T.b_z31 .nil j0i)))))) j01)))))),?_⟩
  walk_at "v"
  refine⟨wd,p,rfl,.inl ⟨g,hg,fun r H1 n1 B e1=>?_⟩⟩
  cases g with
  | line ns =>
   obtain⟨dx,wo,dw,sp,h1,h2,h3⟩:=Nl.LineAt.ex B
   walk_at "v"
   refine j1w ?_
   walk_at "v"
   refine⟨r,_,_,rfl,B,fun v hv=>?_⟩
   walk_at "v"
   intro t' H2 n2 q2 e2
   exact hq t' wo _ H2 q2 ⟨dw,e2 _ _ h2⟩ ⟨v,rfl,(e2 _ _ hv)⟩ (e1.tr e2)
  | shelf ss =>
   obtain⟨dx,wo,dw,sp,tp,h1,h2,h3,h4⟩:=Ns.ShelfAt.ex B
   walk_at "v"
   refine j0k (j1w ?_)
   walk_at "v"
   refine⟨r,_,_,_,rfl,B,fun v hv=>?_⟩
   walk_at "v"
   intro t' H2 n2 q2 e2
   exact hq t' wo _ H2 q2 ⟨dw,tp,e2 _ _ h2,e2 _ _ h4⟩ ⟨v,rfl,(e2 _ _ hv)⟩ (e1.tr e2)
  | hire W =>
   obtain⟨dx,wo,dw,h1,h2⟩:=Nh.BuyAt.ex B
   walk_at "v"
   refine j0k (j0k (j1w ?_))
   walk_at "v"
   refine⟨r,_,_,_,rfl,B,?_⟩
   walk_at "v"
   intro t' H2 n2 q2 e2
   exact hq t' wo _ H2 q2 ⟨dw,e2 _ _ h2⟩ rfl (e1.tr e2)
  | ways n t h =>
   obtain⟨dx,wo,dw,q,h1,h2,h3⟩:=Nw.WaysAt.ex B
   walk_at "v"
   refine j0k (j0k (j0k (j1w ?_)))
   walk_at "v"
   refine⟨r,_,_,_,_,rfl,B,?_⟩
   walk_at "v"
   intro t' H2 n2 q2 e2
   exact hq t' wo _ H2 q2 ⟨dw,by have:=h2;rw[Nw.fst_len] at this;exact e2 _ _ this⟩ rfl (e1.tr e2)
  | store ss =>
   obtain⟨dx,wo,dw,sp,q,ss0,kk⟩:=Nk.KeepAt.ex B
   have h1:=kk.hr
   have h2:=kk.hw
   walk_at "v"
   refine j0k (j0k (j0k (j0k (j1w ?_))))
   walk_at "v"
   refine⟨r,_,_,rfl,B,fun v vs vp vo hv=>?_⟩
   walk_at "v"
   intro t' H2 n2 q2 e2
   exact hq t' wo _ H2 q2 ⟨dw,e2 _ _ h2⟩ ⟨v,vs,rfl,(e2 _ _ hv),vp,vo⟩ (e1.tr e2)
  | bags R =>
   obtain⟨ss0,B0,pm0,pw0⟩:=B
   obtain⟨dx,wo,dw,sp,q,h1,h2,h3,h4⟩:=Nb.BagAt.ex B0
   walk_at "v"
   refine j0k (j0k (j0k (j0k (j0k ?_))))
   walk_at "v"
   refine⟨r,_,_,_,_,rfl,B0,fun v hv=>?_⟩
   walk_at "v"
   intro t' H2 n2 q2 e2
   exact hq t' wo _ H2 q2 ⟨dw,e2 _ _ h2⟩ ⟨v,_,rfl,(e2 _ _ hv),pm0,pw0⟩ (e1.tr e2)
theorem jat {K:PySem.W.Frag}{C L f:Addr} (e:ErrK K C (.ref L :: bmV) f):Catch K C C:=⟨_,_,e.ec (.inr ⟨_,rfl⟩),e.ec (.inr ⟨_,rfl⟩),by simp⟩
def NoOp (wd:Str) (xs:List V):Prop:=inV (.str wd) ((["line","shelf","hire","ways","store","bags"]:List Str).map V.str)=false∨(inV (.str wd) ((["line","shelf","hire","ways","store","bags"]:List Str).map V.str)=true∧∃ k:Int,valS [("hire",1),("ways",3),("bags",1)] wd=some (.int k)∧(xs.length:Int)≠k)∨BadS wd xs
theorem BadS.len {wd:Str}{xs:List V} (h:BadS wd xs):inV (.str wd) ((["line","shelf","hire","ways","store","bags"]:List Str).map V.str)=true∧(valS [("hire",1),("ways",3),("bags",1)] wd=none∨valS [("hire",1),("ways",3),("bags",1)] wd=some (.int (xs.length:Nat))):=by
 rcases h with⟨rfl,_⟩ | ⟨rfl | rfl,_⟩ | ⟨rfl,x,rfl,_⟩ | ⟨rfl,x,rfl,_⟩ | ⟨rfl,x,y,z,rfl,_⟩
 ·exact⟨rfl,.inl rfl⟩
 ·exact⟨rfl,.inl rfl⟩
 ·exact⟨rfl,.inl rfl⟩
 ·exact⟨rfl,.inr rfl⟩
 ·exact⟨rfl,.inr rfl⟩
 ·exact⟨rfl,.inr rfl⟩
def j60 (a:Adr):Sp:=fun vs H Q _=>∃ (wd:Str) (p:Addr),vs=[.str wd,.ref p]∧((∃ g:G83,GAt H g wd p∧∀ H',Ext H H'→Q (.bl true) H')∨∃ xs,H p=some (.tup xs)∧xs.length≤1000∧(∀ x∈xs,FlV x)∧NoOp wd xs∧∀ H',Ext H H'→Q (.bl false) H')
theorem j61 (T:Txt w K mg a):FnOk P w K mg base (CXU P w) 9 a.f_z35 a.d_z35 ["word","start"] (j60 a):=by
 refine T.F_z35.okU sc_z35 (fun vs H Q E h=>?_) (fun cdv A outer s H vs Q E hr h=>?_)
 ·obtain⟨wd,p,rfl,h⟩:=h
  rfl
 ·obtain⟨wd,p,rfl,h⟩:=h
  refine⟨_,(j02 (j12 (PW.pt (j58 (j0h jg7 (pv 0) (j1j (v:=V.ref a.v_FIRST_WORDS) (by rfl) T.m_FIRST_WORDS rfl) (by with_unfolding_all rfl)) (j2a (j0h jim (j08 j24 (by rfl) T.n_len PySem.boot_len (j00 (pv 1) j01)) (jhh T.g_LENGTHS (j1j (v:=V.ref a.v_LENGTHS) (by rfl) T.m_LENGTHS rfl) (pv 0) (j08 j24 (by rfl) T.n_len PySem.boot_len (j00 (pv 1) j01)) ⟨rfl,rfl,rfl,rfl⟩) (j0j _))))) (j03 (j0c j4c)) j0d)
   (j02 (jhi (L:=a.c_NoState) ⟨rfl,rfl,rfl⟩ (by rfl) T.m_NoState (j9t (j9s (ja4 (j5z T) (hr.mono (by decide)) (by rfl) T.m_z62 T.F_z62.kp T.b_z62 .nil (j00 (pv 0) (j00 (pv 1) j01))))) (fun _=>(j03 (j0c j4c))))
   (j03 (j0c j4c)))),?_⟩
  rcases h with⟨g,hg,hq⟩ | ⟨xs,hp,hl,hf,hno,hq⟩
  ·obtain⟨hwd,hp,hok⟩:=id hg
   have len:valS [("hire",1),("ways",3),("bags",1)] wd=none∨valS [("hire",1),("ways",3),("bags",1)] wd=some (.int (g.tup.length:Nat)):=by
    rw[hwd]
    cases g with
    | line ns=>exact .inl rfl
    | shelf ss=>exact .inl rfl
    | store ss=>exact .inl rfl
    | _=>exact .inr rfl
   have hin:inV (.str wd) ((["line","shelf","hire","ways","store","bags"]:List Str).map V.str)=true:=by rw[hwd];cases g <;> rfl
   walk_at "v"
   refine⟨_,_,rfl,.inr (T.q_FIRST_WORDS _),rfl,rfl,?_⟩
   rw[hin]
   walk_at "v"
   refine j0m hp ?_
   walk_at "v"
   refine j0m hp ?_
   walk_at "v"
   have hv:(valS [("hire",1),("ways",3),("bags",1)] wd).getD (.int (g.tup.length:Nat))=.int (g.tup.length:Nat):=by rcases len with e | e <;> rw[e] <;> rfl
   refine⟨wd,rfl,?_⟩
   rw[hv]
   walk_at "v"
   rw[decide_eq_true rfl]
   walk_at "v"
   refine⟨wd,p,rfl,.inl ⟨g,hg,fun r H2 n2 B2 e2=>?_⟩⟩
   walk_at "v"
   exact hq H2 e2
  ·rcases hno with hin | ⟨hin,k,hk,hne⟩ | hbad
   ·walk_at "v"
    refine⟨_,_,rfl,.inr (T.q_FIRST_WORDS _),rfl,rfl,?_⟩
    rw[hin]
    walk_at "v"
    exact hq H Ext.rfl'
   ·walk_at "v"
    refine⟨_,_,rfl,.inr (T.q_FIRST_WORDS _),rfl,rfl,?_⟩
    rw[hin]
    walk_at "v"
    refine j0m hp ?_
    walk_at "v"
    refine j0m hp ?_
    walk_at "v"
    refine⟨wd,rfl,?_⟩
    rw[hk]
    show rNe _ (.int k) _ _
    walk_at "v"
    rw[decide_eq_false hne]
    walk_at "v"
    exact hq H Ext.rfl'
   ·obtain⟨hin,len⟩:=hbad.len
    walk_at "v"
    refine⟨_,_,rfl,.inr (T.q_FIRST_WORDS _),rfl,rfl,?_⟩
    rw[hin]
    walk_at "v"
    refine j0m hp ?_
    walk_at "v"
    refine j0m hp ?_
    walk_at "v"
    have hv:(valS [("hire",1),("ways",3),("bags",1)] wd).getD (.int (xs.length:Nat))=.int (xs.length:Nat):=by rcases len with e | e <;> rw[e] <;> rfl
    refine⟨wd,rfl,?_⟩
    rw[hv]
    walk_at "v"
    rw[decide_eq_true rfl]
    walk_at "v"
    refine⟨wd,p,rfl,.inr ⟨xs,hp,hl,hf,hbad,fun d H2 e2 q2=>?_⟩⟩
    refine⟨_,rfl,jat T.ek_NoState,fun e he=>?_⟩
    walk_at "v"
    exact hq _ (e2.tr (j1e he))
def j30:Sp:=fun vs H Q _=>∃ (v:V) (k:Kd),vs=[v]∧HasK H v k∧((k≠.str∧∀ l H',H l=none→H' l=some (.lst [])→Ext H H'→Q (.ref l) H')∨∃ z:Str,v=.str z∧z.length≤999990∧∀ l ys H',H l=none→H' l=some (.lst ys)→RwAt H' (j1d (Txt.split z ⟨#[10]⟩) 0) ys→Ext H H'→Q (.ref l) H')
theorem j31 (T:Txt w K mg a):FnOk P w K mg base (CXU P w) 1 a.f_z2 a.d_z2 ["text"] (j30):=by
 refine T.F_z2.okU sc_z2 (fun vs H Q E h=>?_) (fun cdv A outer s H vs Q E hr h=>?_)
 ·obtain⟨v,k,rfl,hk,h⟩:=h
  rfl
 ·obtain⟨v,k,rfl,hk,h⟩:=h
  refine⟨_,(j02 (j12 (j0w (ptT (j08 j59 (by rfl) T.n_isinstance PyProof.Rows.boot_isinstance (j00 (pv 0) (j00 (j17 (v:=V.ty "str") (by rfl) T.n_str PyProof.Rows.boot_str rfl) j01))) (fun _=>rfl))) (j03 (j0c (j0o j01))) j0d)
   (j03 (j0c (j1r (["row","line"]:List Str) ([]:List Str) [] rfl ⟨rfl,by decide +kernel,by decide +kernel,by rfl,trivial⟩ (jgo rfl T.n_enumerate (j00 (j8v PySem.F.plainAttrs_str PySem.F.slot_str_split PySem.F.type_str_split ja6 (pv 0) (j00 j06 j01)) j01)) (fun _ _ _ _=>⟨(j8w rfl (j1n (j0p (i:=0) (by show ((["row","line"]:List Str)++([]:List Str)).Nodup;decide +kernel) rfl (by first | exact Or.inl rfl | exact Or.inr rfl)) (j1n (j0p (i:=1) (by show ((["row","line"]:List Str)++([]:List Str)).Nodup;decide +kernel) rfl (by first | exact Or.inl rfl | exact Or.inr rfl)) j5b))),(show PTs _ [_] [_] from⟨(j0h (oNe hr) (pv 1) j06 (j0j _)),trivial⟩),(j2e (j00 (pv 0) (j00 (pv 1) j01)))⟩))))),?_⟩
  rcases h with⟨nk,hq⟩ | ⟨z,rfl,hl,hq⟩
  ·walk_at "v"
   refine jfj hk ?_
   rw[show (k == Kd.str)=false by cases k <;> first | rfl | exact absurd rfl nk]
   walk_at "v"
   intro l H1 n1 q1 e1
   exact hq l H1 n1 q1 e1
  ·cases (show k=.str from hk)
   have hln:=split_le z ⟨#[10]⟩
   walk_at "v"
   refine jfj (k:=.str) rfl ?_
   walk_at "v"
   rw[show Str.ofString "\n"=(⟨#[10]⟩:Str) by decide]
   refine jdc (by omega) fun p H1 n1 q1 e1=>?_
   generalize Txt.split z ⟨#[10]⟩=zs at *
   walk_at "v"
   refine⟨p,_,false,rfl,SqL.of q1,fun acc hn _ _ _ _=>jc7 q1 (by rw[List.length_map];omega) hn (fun i ys H2=>∃ rs,RwAt H2 rs ys∧rs.length≤i∧rs++j1d (zs.drop i) i=j1d zs 0) ⟨[],trivial,Nat.le_refl _,rfl⟩ (fun _ _ _ _ k ⟨rs,h1,h2⟩=>⟨rs,h1.kp k,h2⟩) (fun i ys H2 _ ⟨rs,h1,h2,_⟩=>by rw[h1.len];exact h2) ?_ ?_⟩
   ·rintro i x ys H2 H3 hx e e' ⟨rs,h1,h2,h3⟩ Y N hY hN
    rw[List.getElem?_map] at hx
    obtain⟨y,hy,rfl⟩:=Option.map_eq_some_iff.mp hx
    have hd:zs.drop i=y :: zs.drop (i+1):=by
     obtain⟨hi,hy'⟩:=List.getElem?_eq_some_iff.mp hy
     rw[List.drop_eq_getElem_cons hi,hy']
    rw[hd] at h3
    walk_at "v"
    refine j6n ?_
    rw[show Str.ofString ""=(⟨#[]⟩:Str) by decide]
    walk_at "v"
    have h3:rs++(if y=⟨#[]⟩ then j1d (zs.drop (i+1)) (i+1) else (i,y) :: j1d (zs.drop (i+1)) (i+1))=j1d zs 0:=h3
    refine iteN (fun c=>?_) (fun c=>?_)
    ·walk_at "v"
     intro t H4 n4 q4 e4
     rw[if_neg c] at h3
     exact hY _ _ (e'.tr e4) ⟨rs++[(i,y)],RwAt.snoc q4 (h1.kp (e'.tr e4).kp),by simp;omega,by rw[List.append_assoc];exact h3⟩
    ·rw[if_pos c] at h3
     exact hN _ e' ⟨rs,h1.kp e'.kp,by omega,h3⟩
   ·rintro ys H2 e2 q2 ⟨rs,h1,_,h3⟩
    rw[List.length_map,List.drop_length] at h3
    have h3:rs++[]=j1d zs 0:=h3
    rw[List.append_nil] at h3
    rw[h3] at h1
    walk_at "v"
    exact hq acc ys H2 (e1.free hn) q2 h1 (e1.tr e2)
def ji6 (l:Str):Prop:=∃ w0 ws,Txt.split l ⟨#[32]⟩=w0 :: ws∧NoOp w0 (ws.map wrV)
def Ref (H:Hp) (v:V) (n:Nat):Prop:=(∃ k,HasK H v k∧k≠.str∧n=0)∨∃ z:Str,v=.str z∧z.length≤999990∧((j1d (Txt.split z ⟨#[10]⟩) 0=[]∧n=0) ∨
 (∃ l rs,j1d (Txt.split z ⟨#[10]⟩) 0=(n,l) :: rs∧AscS l∧l.length≤900∧ji6 l) ∨
 ∃ (g:G83) (ws:List W83) (i0:Nat) (rg:List (Nat × Str)) (z1:Str) (rs':List (Nat × Str)),g.ok∧(∀ w∈ws,g.rs.okW w)∧ws.length≤200∧j1d (Txt.split z ⟨#[10]⟩) 0=(i0,lnG g) :: (rg++(n,z1) :: rs')∧rg.map (·.2)=ws.map lnW∧BadA g ws z1)
def j70 (a:Adr):Sp:=fun vs H Q E=>∃ v,vs=[v]∧((∃ (z:Str) (g:G83) (ws:List W83),v=.str z∧z.length≤999990∧g.ok∧(∀ w∈ws,g.rs.okW w)∧ws.length≤200∧((Txt.split z ⟨#[10]⟩).filter fun x=>!decide (x=⟨#[]⟩))=lnG g :: ws.map lnW∧∀ t q l wvs H',H' t=some (.tup [.str g.word,.ref q,.ref l])→H' q=some (.tup g.tup)→H l=none→H' l=some (.lst wvs)→AllW H' ws wvs→Ext H H'→Q (.ref t) H') ∨
 ∃ n,Ref H v n∧∀ d H',Ext H H'→H' d=some (.xd [("row",.int (n:Nat))])→E (.ref a.c_NoText) (some d) H')
theorem j2g (T:Txt w K mg a):FnOk P w K mg base (CXU P w) 10 a.f_z54 a.d_z54 ["text"] (j70 a):=by
 refine T.F_z54.okX ja8 (fun vs H Q E h=>?_) (fun cdv A outer s H vs Q E hr h=>?_)
 ·obtain⟨v,rfl,h⟩:=h
  rfl
 ·obtain⟨v,rfl,h⟩:=h
  refine⟨_,(j02 (j0l (i:=1) ja8.nd rfl (by first | exact Or.inl rfl | exact Or.inr rfl) (j09 (j31 T) (hr.mono (by decide)) (by rfl) T.m_z2 T.F_z2.kp T.b_z2 .nil j0i (j00 (pv 0) j01)))
   (j02 (j12 (j0w (ptT (pv 1) (fun _=>rfl))) (j03 (j19 j3w rfl (je7 (T.ek_NoText.em (.inr ⟨_,rfl⟩)) (j0g T) (hr.mono (by decide)) (by rfl) T.m_NoText T.b_z3 .nil j0i (j00 j05 j01)))) j0d)
   (j02 (j0l (i:=2) ja8.nd rfl (by first | exact Or.inl rfl | exact Or.inr rfl) (j09 (j80 T) (hr.mono (by decide)) (by rfl) T.m_z64 T.F_z64.kp T.b_z64 .nil j0i (j00 (j1h oIx (j1h oIx (pv 1) j05 (fun _ _=>rfl)) j05 (fun _ _=>rfl)) j01)))
   (j02 (j0l (i:=3) ja8.nd rfl (by first | exact Or.inl rfl | exact Or.inr rfl) (j1h oIx (pv 2) j05 (fun _ _=>rfl)))
   (j02 (j0l (i:=4) ja8.nd rfl (by first | exact Or.inl rfl | exact Or.inr rfl) (j1h oIx (pv 2) j05 (fun _ _=>rfl)))
   (j02 (j12 (j0w (ptT (j09 (j61 T) (hr.mono (by decide)) (by rfl) T.m_z35 T.F_z35.kp T.b_z35 .nil j0i (j00 (pv 3) (j00 (pv 4) j01))) (fun _=>rfl))) (j03 (j19 j3w rfl (je7 (T.ek_NoText.em (.inr ⟨_,rfl⟩)) (j0g T) (hr.mono (by decide)) (by rfl) T.m_NoText T.b_z3 .nil j0i (j00 (j1h oIx (j1h oIx (pv 1) j05 (fun _ _=>rfl)) j05 (fun _ _=>rfl)) j01)))) j0d)
   (j03 (j0c (j2e (j00 (pv 3) (j00 (pv 4) (j00 (j09 (j45 T) (hr.mono (by decide)) (by rfl) T.m_z19 T.F_z19.kp T.b_z19 .nil (jb1 j3w) (j00 (pv 3) (j00 (j1h oIx (j09 (j53 T) (hr.mono (by decide)) (by rfl) T.m_z28 T.F_z28.kp T.b_z28 .nil j0i (j00 (pv 3) (j00 (pv 4) j01))) j05 (fun _ _=>rfl)) (j00 (j1f oSl (pv 1) (j1m j05) j21) j01)))) j01)))))))))))),?_⟩
  have go:∀ (g:G83) (z:Str) (p:Nat × Str) (rs:List (Nat × Str)),True:=fun _ _ _ _=>trivial
  rcases h with⟨z,g,ws,rfl,hl,hok,hws,hl2,hf,hq⟩ | ⟨n,hr,hn⟩
  ·rw[← jal _ 0] at hf
   obtain⟨hsp,hln⟩:=jez hok
   have hps:=ClV.wrs (G83.cl hok).1
   walk_at "v"
   refine⟨_,.str,rfl,rfl,.inr ⟨z,rfl,hl,fun l ys H1 n1 q1 rw1 e1=>?_⟩⟩
   generalize j1d (Txt.split z ⟨#[10]⟩) 0=rs at *
   cases rs with
   | nil=>cases hf
   | cons p rs =>
    rw[List.map_cons] at hf
    injection hf with hf1 hf2
    obtain⟨n,zl⟩:=p
    have hf1:zl=lnG g:=hf1
    subst hf1
    obtain⟨ta,us,rfl,hta,rw2⟩:=RwAt.tail rw1
    have hta:H1 ta=some (.tup [.int (n:Nat),.str (lnG g)]):=hta
    walk_at "v"
    refine⟨_,.inl ⟨_,SqL.of q1,rfl⟩,?_⟩
    walk_at "v"
    refine j26 q1 (j18 (by decide) rfl) ?_
    walk_at "v"
    refine j11 hta rfl ?_
    walk_at "v"
    refine⟨_,_,_,rfl,hln.asc,by have:=hln.2.2;omega,hsp,fun t q H2 q2 qq2 e2=>?_⟩
    rw[hps] at qq2
    walk_at "v"
    refine j11 q2 rfl ?_
    walk_at "v"
    refine j11 q2 rfl ?_
    walk_at "v"
    refine⟨g.word,q,rfl,.inl ⟨g,⟨rfl,qq2,hok⟩,fun H3 e3=>?_⟩⟩
    walk_at "v"
    refine⟨g,g.word,q,rfl,⟨rfl,e3 _ _ qq2,hok⟩,fun t4 w v4 H4 q4 w4 _ e4=>?_⟩
    walk_at "v"
    refine j11 q4 rfl ?_
    have x4:=e2.tr (e3.tr e4)
    walk_at "v"
    refine jcz (x4 _ _ q1) fun l5 H5 n5 q5 e5=>?_
    rw[jak _ (by simp),List.drop_one,List.tail_cons] at q5
    walk_at "v"
    refine⟨g,g.word,w,l5,ws,rs,us,rfl,rfl,hok,RS.woE e5 w4,hws,hl2,q5,rw2.kp (x4.tr e5).kp,.inl ⟨hf2,fun l6 wvs H6 n6 q6 a6 e6=>?_⟩⟩
    walk_at "v"
    intro t7 H7 n7 q7 e7
    have xx:=e1.tr (x4.tr e5)
    exact hq t7 q l6 wvs H7 q7 ((((e3.tr e4).tr e5).tr (e6.tr e7)) _ _ qq2) (xx.free n6) (e7 _ _ q6) (a6.mono fun _ _ zz=>e7 _ _ zz) (xx.tr (e6.tr e7))
  ·rcases hr with⟨k,hk,nk,rfl⟩ | ⟨z,rfl,hl,⟨hnil,rfl⟩ | ⟨ln,rs,hnz,ha,hll,w0,ws,hsp,hno⟩ | ⟨g,ws,i0,rg,z1,rs',hok,hws,hl2,hnz,hrg,hbad⟩⟩
   ·walk_at "v"
    refine⟨_,k,rfl,hk,.inl ⟨nk,fun l H1 n1 q1 e1=>?_⟩⟩
    walk_at "v"
    refine⟨_,.inl ⟨_,SqL.of q1,rfl⟩,?_⟩
    walk_at "v"
    exact j3h T.ek_NoText (.inr ⟨_,rfl⟩) fun d H' _ q2 e2=>hn d H' (e1.tr e2) q2
   ·walk_at "v"
    refine⟨_,.str,rfl,rfl,.inr ⟨z,rfl,hl,fun l ys H1 n1 q1 rw1 e1=>?_⟩⟩
    rw[hnil] at rw1
    have hy:ys=[]:=by have:=rw1.len;exact List.eq_nil_of_length_eq_zero this
    subst hy
    walk_at "v"
    refine⟨_,.inl ⟨_,SqL.of q1,rfl⟩,?_⟩
    walk_at "v"
    exact j3h T.ek_NoText (.inr ⟨_,rfl⟩) fun d H' _ q2 e2=>hn d H' (e1.tr e2) q2
   ·have hwa:=j4x (c0:=32) ha (show ln.length≤1000000 by omega)
    have hln:=split_le ln ⟨#[32]⟩
    have hfl:∀ x∈ws.map wrV,FlV x:=fun x hx=>by
     obtain⟨y,hy,rfl⟩:=List.mem_map.mp hx
     have hm:y∈Txt.split ln ⟨#[32]⟩:=by rw[hsp];exact List.mem_cons_of_mem _ hy
     exact wr_fl (hwa y hm).1 (Nat.le_trans (part_short hm) (by omega))
    have hxl:(ws.map wrV).length≤1000:=by rw[hsp,List.length_cons] at hln;rw[List.length_map];omega
    walk_at "v"
    refine⟨_,.str,rfl,rfl,.inr ⟨z,rfl,hl,fun l ys H1 n1 q1 rw1 e1=>?_⟩⟩
    rw[hnz] at rw1
    obtain⟨ta,us,rfl,hta,rw2⟩:=RwAt.tail rw1
    have hta:H1 ta=some (.tup [.int (n:Nat),.str ln]):=hta
    walk_at "v"
    refine⟨_,.inl ⟨_,SqL.of q1,rfl⟩,?_⟩
    walk_at "v"
    refine j26 q1 (j18 (by decide) rfl) ?_
    walk_at "v"
    refine j11 hta rfl ?_
    walk_at "v"
    refine⟨_,_,_,rfl,ha,by omega,hsp,fun t q H2 q2 qq2 e2=>?_⟩
    walk_at "v"
    refine j11 q2 rfl ?_
    walk_at "v"
    refine j11 q2 rfl ?_
    walk_at "v"
    refine⟨w0,q,rfl,.inr ⟨_,qq2,hxl,hfl,hno,fun H3 e3=>?_⟩⟩
    walk_at "v"
    have x3:=e2.tr e3
    refine j26 (x3 _ _ q1) (j18 (by decide) rfl) ?_
    walk_at "v"
    refine j11 (x3 _ _ hta) rfl ?_
    exact j3h T.ek_NoText (.inr ⟨_,rfl⟩) fun d H' _ q4 e4=>hn d H' (e1.tr (x3.tr e4)) q4
   ·obtain⟨hsp,hln⟩:=jez hok
    have hps:=ClV.wrs (G83.cl hok).1
    walk_at "v"
    refine⟨_,.str,rfl,rfl,.inr ⟨z,rfl,hl,fun l ys H1 n1 q1 rw1 e1=>?_⟩⟩
    rw[hnz] at rw1
    generalize hrs:rg++(n,z1) :: rs'=rs at *
    have go:∀ n0:Nat,n0=i0→RwAt H1 ((n0,lnG g) :: rs) ys:=fun n0 e=>by rw[e];exact rw1
    clear rw1
    have rw1:=go i0 rfl
    clear go
    generalize i0=nn at *
    obtain⟨ta,us,rfl,hta,rw2⟩:=RwAt.tail rw1
    have hta:H1 ta=some (.tup [.int (nn:Nat),.str (lnG g)]):=hta
    walk_at "v"
    refine⟨_,.inl ⟨_,SqL.of q1,rfl⟩,?_⟩
    walk_at "v"
    refine j26 q1 (j18 (by decide) rfl) ?_
    walk_at "v"
    refine j11 hta rfl ?_
    walk_at "v"
    refine⟨_,_,_,rfl,hln.asc,by have:=hln.2.2;omega,hsp,fun t q H2 q2 qq2 e2=>?_⟩
    rw[hps] at qq2
    walk_at "v"
    refine j11 q2 rfl ?_
    walk_at "v"
    refine j11 q2 rfl ?_
    walk_at "v"
    refine⟨g.word,q,rfl,.inl ⟨g,⟨rfl,qq2,hok⟩,fun H3 e3=>?_⟩⟩
    walk_at "v"
    refine⟨g,g.word,q,rfl,⟨rfl,e3 _ _ qq2,hok⟩,fun t4 w v4 H4 q4 w4 _ e4=>?_⟩
    walk_at "v"
    refine j11 q4 rfl ?_
    have x4:=e2.tr (e3.tr e4)
    walk_at "v"
    refine jcz (x4 _ _ q1) fun l5 H5 n5 q5 e5=>?_
    rw[jak _ (by simp),List.drop_one,List.tail_cons] at q5
    walk_at "v"
    refine⟨g,g.word,w,l5,ws,rs,us,rfl,rfl,hok,RS.woE e5 w4,hws,hl2,q5,rw2.kp (x4.tr e5).kp,.inr ⟨rg,n,z1,rs',hrs.symm,hrg,hbad,fun d H6 e6 q6=>?_⟩⟩
    exact hn d H6 (e1.tr (x4.tr (e5.tr e6))) q6
def j54 (a:Adr):Sp:=fun vs H Q _=>∃ (v:V) (n:Nat),vs=[v,.int (n:Nat)]∧Ref H v n∧∀ H',Ext H H'→Q (.bl true) H'
theorem j1a (T:Txt w K mg a):FnOk P w K mg base (CXU P w) 13 a.f_z27 a.d_z27 ["_law_thing","_law_row"] (j54 a):=by
 refine T.F_z27.okU jc8 (fun vs H Q E h=>?_) (fun cdv A outer s H vs Q E hr h=>?_)
 ·obtain⟨v,n,rfl,hRf,hq⟩:=h
  rfl
 ·obtain⟨v,n,rfl,hRf,hq⟩:=h
  have zc_Keeper:=T.cl_Keeper
  have zn_Keeper_row:=T.na_Keeper_row
  refine⟨_,(j02 (j0l (i:=2) jc8.nd rfl (by first | exact Or.inl rfl | exact Or.inr rfl) j6b)
   (j02 (ps_try (i:=3) (L:=a.c_LateError) ⟨rfl,rfl,rfl⟩ jc8.nd rfl rfl (by rfl) T.m_LateError (j9t (j9s (ja4 (j2g T) (hr.mono (by decide)) (by rfl) T.m_z54 T.F_z54.kp T.b_z54 .nil (j00 (pv 0) j01)))) (fun _=>(j03 (j0l (i:=2) jc8.nd rfl (by first | exact Or.inl rfl | exact Or.inr rfl) (pv 3)))))
   (j02 (j12 (PW.pt (j58 (j0h oIsN (pv 2) j6b (j0j _)) (j58 (j0w (ptT (j08 cIsE (by rfl) T.n_isinstance PyProof.Rows.boot_isinstance (j00 (pv 2) (j00 (j1j (v:=V.ref a.c_NoText) (by rfl) T.m_NoText rfl) j01))) (fun _=>rfl))) (j2a (j0w (ptT (j08 cIsE (by rfl) T.n_isinstance PyProof.Rows.boot_isinstance (j00 (pv 2) (j00 (j17 (v:=V.ty "ValueError") (by rfl) T.n_ValueError (by decide +kernel) rfl) j01))) (fun _=>rfl))))))) (j03 (j0c j4c)) j0d)
   (j02 (j12 (PW.pt (j58 (ptT (j08 cIsE (by rfl) T.n_isinstance PyProof.Rows.boot_isinstance (j00 (pv 2) (j00 (j1j (v:=V.ref a.c_NoState) (by rfl) T.m_NoState rfl) j01))) (fun _=>rfl)) (j58 (ptT (j08 cIsE (by rfl) T.n_isinstance PyProof.Rows.boot_isinstance (j00 (pv 2) (j00 (j1j (v:=V.ref a.c_NoWish) (by rfl) T.m_NoWish rfl) j01))) (fun _=>rfl)) (j2a (ptT (j08 cIsE (by rfl) T.n_isinstance PyProof.Rows.boot_isinstance (j00 (pv 2) (j00 (j1j (v:=V.ref a.c_TooGreat) (by rfl) T.m_TooGreat rfl) j01))) (fun _=>rfl)))))) (j03 (j0c j4c)) j0d)
   (j03 (j0c (j09 (j2x T) (hr.mono (by decide)) (by rfl) T.m_z57 T.F_z57.kp T.b_z57 .nil j0i (j00 (jgw (pv 2) rfl) (j00 (pv 1) j01))))))))),?_⟩
  walk_at "v"
  refine⟨v,rfl,.inr ⟨n,hRf,fun d H2 x2 q2=>?_⟩⟩
  refine⟨_,rfl,jc0 T.ek_NoText T.ek_LateError,fun e he=>?_⟩
  have nd:d≠e:=fun z=>by rw[z,he] at q2;cases q2
  have hE:j5n (upd H2 e (errH e (.ref a.c_NoText) (some d))) e a.c_NoText d:=.inl j0a
  have hd:(upd H2 e (errH e (.ref a.c_NoText) (some d))) d=some (.xd [("row",.int (n:Nat))]):=by rw[j0e nd];exact q2
  have x3:Ext H (upd H2 e (errH e (.ref a.c_NoText) (some d))):=x2.tr (j1e he)
  have ei:=T.ek_NoText.ei (.inr ⟨_,rfl⟩)
  generalize upd H2 e (errH e (.ref a.c_NoText) (some d))=H3 at *
  walk_at "v"
  refine jc1 hE hd ei jem ?_
  walk_at "v"
  refine r_isET hE hd ei T.kt_NoText_ValueError ?_
  walk_at "v"
  refine jc1 hE hd ei T.ke_NoText_NoState ?_
  walk_at "v"
  refine jc1 hE hd ei T.ke_NoText_NoWish ?_
  walk_at "v"
  refine jc1 hE hd ei T.ke_NoText_TooGreat ?_
  walk_at "v"
  refine jgy hE hd T.ek_NoText (.inr ⟨_,rfl⟩) ?_
  walk_at "v"
  refine j4y (d:=.int (n:Nat)) .intI .intI rfl rfl fun H4 e4=>?_
  exact hq H4 (x3.tr e4)
def strN:List Str:=[Str.ofString "q",Str.ofString "qq",mulS (Str.ofString "q") 8,Str.ofString "other",Str.ofString "s",Str.ofString "ss",Str.ofString "st",Str.ofString "sto",Str.ofString "none"]
theorem ji7:∀ {l m:List Str},l.Nodup→(∀ x∈l,x∈m)→l.length≤m.length
 | [],_,_,_=>Nat.zero_le _
 | a :: l,m,h,hs=>by
  rw[List.nodup_cons] at h
  have ha:=hs a List.mem_cons_self
  have:=ji7 (l:=l) (m:=m.erase a) h.2 fun x hx=>(List.mem_erase_of_ne (fun e=>h.1 (by rw[← e];exact hx))).mpr (hs x (List.mem_cons_of_mem _ hx))
  rw[List.length_erase_of_mem ha] at this
  have:0 < m.length:=List.length_pos_of_mem ha
  rw[List.length_cons]
  omega
theorem ji8:∀ s∈strN,nmS s=true:=by decide +kernel
theorem ji9:strN.Nodup:=by decide +kernel
def j48:Sp:=fun vs H Q _=>∃ (p:Addr) (ss:List Str),vs=[.ref p]∧H p=some (.tup (ss.map V.str))∧Names ss∧∀ s H',nmS s=true→s∉ss→Ext H H'→Q (.str s) H'
theorem j49 (T:Txt w K mg a):FnOk P w K mg base (CXU P w) 1 a.f_z22 a.d_z22 ["_law_names_here"] (j48):=by
 refine T.F_z22.okU jhm (fun vs H Q E h=>?_) (fun cdv A outer s H vs Q E hr h=>?_)
 ·obtain⟨p,ss,rfl,hp,hN,hq⟩:=h
  rfl
 ·obtain⟨p,ss,rfl,hp,hN,hq⟩:=h
  refine⟨_,(j02 (j86 PassesOwn.never rfl (j5c (j0o (j00 j06 (j00 j06 (j00 (j0f j8i j06 j05) (j00 j06 (j00 j06 (j00 j06 (j00 j06 (j00 j06 (j00 j06 j01))))))))))) (j0p (i:=1) jhm.nd rfl (by first | exact Or.inl rfl | exact Or.inr rfl)) (j03 (j12 (j0h jg7 (pv 1) (pv 0) (by with_unfolding_all rfl)) (j03 (j0c (pv 1))) j0d)))
   (j03 (j0c j06))),?_⟩
  walk_at "v"
  refine j7t (by decide) (by decide) (by decide) ?_
  walk_at "v"
  intro l H1 n1 q1 e1
  have q1:H1 l=some (.lst (strN.map V.str)):=q1
  walk_at "v"
  refine⟨l,rfl,⟨_,SqL.of q1⟩,j6d (xs:=strN.map V.str) (fun i σ H2=>(∃ u,σ=[some (.ref p),u])∧Ext H1 H2∧∀ s∈strN.take i,s∈ss) ⟨⟨none,rfl⟩,Ext.rfl',fun s hs=>by simp at hs⟩ (fun i σ H2 _ h=>SqL.of (h.2.1 _ _ q1)) ?_ ?_⟩
  ·rintro i x σ H2 hx ⟨⟨u,rfl⟩,x2,hall⟩
   rw[List.getElem?_map] at hx
   obtain⟨s,hs,rfl⟩:=Option.map_eq_some_iff.mp hx
   walk_at "v"
   refine jei ((e1.tr x2) _ _ hp) rfl (j7w _) ?_
   rw[jaa]
   by_cases hm:s∈ss
   ·rw[decide_eq_true hm]
    walk_at "v"
    refine⟨⟨_,rfl⟩,x2,fun t ht=>?_⟩
    rw[List.take_succ,hs] at ht
    rcases List.mem_append.mp ht with h | h
    ·exact hall t h
    ·simp at h
     rw[h]
     exact hm
   ·rw[decide_eq_false hm]
    walk_at "v"
    exact hq s H2 (ji8 s (List.mem_of_getElem? hs)) hm (e1.tr x2)
  ·rintro σ H2 ⟨⟨u,rfl⟩,x2,hall⟩
   exfalso
   rw[List.length_map,List.take_length] at hall
   have h8:=hN.hi
   have:strN.length≤ss.length:=ji7 ji9 hall
   have h9:strN.length=9:=rfl
   omega
def j81 (l:Str):Prop:=AscS l∧1≤l.length∧l.length≤900∧10∉l.cps.toList
def blB (l:Str):Bool:=l.cps.toList.all (fun c=>decide (c < 128) && !decide (c=10)) && decide (1≤l.length) && decide (l.length≤900)
theorem jch {l:Str} (h:blB l=true):j81 l:=by
 unfold blB at h
 simp only[Bool.and_eq_true,decide_eq_true_eq,List.all_eq_true,Bool.not_eq_true',decide_eq_false_iff_not] at h
 exact⟨jaj fun c hc=>(h.1.1 c hc).1,h.1.2,h.2,fun hc=>(h.1.1 10 hc).2 rfl⟩
def naG (g:G83) (l:Str):Bool:=match Txt.split l ⟨#[32]⟩ with
 | w0 :: ws=>!(decide (w0=askS) && wiB g (ws.map wrV))
 | []=>false
theorem jia {g:G83}{l:Str} (h:naG g l=true):NoAsk g l:=by
 unfold naG at h
 cases e:Txt.split l ⟨#[32]⟩ with
 | nil=>rw[e] at h;cases h
 | cons w0 ws =>
  rw[e] at h
  refine⟨w0,ws,e,?_⟩
  by_cases c:w0=askS
  ·right
   have h:(!(decide (w0=askS) && wiB g (ws.map wrV)))=true:=h
   rw[decide_eq_true c,Bool.true_and,Bool.not_eq_true'] at h
   exact h
  ·exact .inl c
theorem jf0 (ns:List Int) (xs:List V):wiB (.line ns) xs=wiB (.line []) xs:=by cases xs with | nil=>rfl | cons x r=>cases r <;> rfl
theorem jf1 (W:Int) (xs:List V):wiB (.hire W) xs=wiB (.hire 1) xs:=by cases xs with | nil=>rfl | cons x r=>cases r <;> rfl
theorem jci (ss:List Str) (xs:List V):wiB (.store ss) xs=wiB (.store []) xs:=by cases xs with | nil=>rfl | cons x r=>cases r <;> rfl
theorem NoAsk.of {g g':G83} (e:∀ xs,wiB g xs=wiB g' xs) {l:Str} (h:NoAsk g' l):NoAsk g l:=by
 obtain⟨w0,ws,h1,h2⟩:=h
 exact⟨w0,ws,h1,h2.imp id fun z=>(e _).trans z⟩
def jcj:Str:=Str.ofString "1"++mulS (Str.ofString "0") 17++Str.ofString "1"
def askP:Str:=Str.ofString "ask "
def jlx:List Str:=[askP++jcj,Str.ofString "ask -"++jcj,Str.ofString "ask a",Str.ofString "ask 1 2"]
def jly:List Str:=[Str.ofString "ask -1",askP++jcj,Str.ofString "ask 1 2",Str.ofString "ask a"]
theorem jf2:jlx.all (fun l=>blB l && naG (.line []) l)=true:=by decide +kernel
theorem jf3:jly.all (fun l=>blB l && naG (.hire 1) l)=true:=by decide +kernel
theorem jib {f:Str→Bool}{ls:List Str}{g:G83} (h:ls.all (fun l=>blB l && naG g l)=true) {l:Str} (hl:l∈ls):j81 l∧NoAsk g l:=by
 have:=List.all_eq_true.mp h l hl
 rw[Bool.and_eq_true] at this
 exact⟨jch this.1,jia this.2⟩
theorem at4 {ls:List Str} (n:Int) (h4:ls.length=4):∃ l∈ls,atI (ls.map V.str) (n % 4)=some (.str l):=by
 have hj:(n % 4).toNat < ls.length:=by omega
 exact⟨ls[(n % 4).toNat],List.getElem_mem hj,j18 (by omega) (by rw[List.getElem?_map,List.getElem?_eq_getElem hj];rfl)⟩
theorem jf4 (ss:List Str):cutV (ss.map V.str) none (some (-1))=(ss.take (ss.length-1)).map V.str:=by
 unfold cutV HT.sIx
 dsimp only
 rw[if_pos (by decide),List.length_map,List.drop_zero,Nat.sub_zero,List.map_take]
 congr 1
 omega
def S1:Str:=Str.ofString "1"
theorem j0t {g:G83}{ps:List Str} (hp:∀ z∈ps,(∀ c∈z.cps.toList,okSg c∨(65≤c∧c≤90))∧z.length≤30) (hl:ps.length≤10) (hb:wiB g (ps.map wrV)=false):j81 (Str.join ⟨#[32]⟩ (askS :: ps))∧NoAsk g (Str.join ⟨#[32]⟩ (askS :: ps)):=by
 have ha:∀ z∈askS :: ps,(∀ c∈z.cps.toList,okSg c∨(65≤c∧c≤90))∧z.length≤30:=fun z hz=>by
  rcases List.mem_cons.mp hz with rfl | hz
  ·exact⟨fun c hc=>.inl (.inr (.inr (jey jhv c hc))),by decide⟩
  ·exact hp z hz
 refine⟨⟨jaj fun c hc=>?_,?_,?_,fun hc=>?_⟩,askS,ps,j3j (List.cons_ne_nil _ _) fun z hz hc=>?_,.inr hb⟩
 ·rcases j4w 32 hc with rfl | ⟨z,hz,h⟩
  ·decide
  ·rcases (ha z hz).1 c h with (h | h | h) | h <;> omega
 ·have:=jai 32 askS ps
  have h3:askS.length=3:=by decide
  omega
 ·have:=j2w 32 (k:=30) (zs:=askS :: ps) fun z hz=>(ha z hz).2
  rw[List.length_cons] at this
  omega
 ·rcases j4w 32 hc with h | ⟨z,hz,h⟩
  ·omega
  ·rcases (ha z hz).1 10 h with (h | h | h) | h <;> omega
 ·rcases (ha z hz).1 32 hc with (h | h | h) | h <;> omega
theorem j71 (x:Str):askP++x=Str.join ⟨#[32]⟩ [askS,x]:=by
 show askP++x=askS++(⟨#[32]⟩:Str)++x
 rw[show askP=askS++(⟨#[32]⟩:Str) by decide]
theorem sgN {z:Str} (h:nmS z=true):(∀ c∈z.cps.toList,okSg c∨(65≤c∧c≤90))∧z.length≤30:=⟨fun c hc=>.inl (.inr (.inr (jey h c hc))),by have:=j22 h;omega⟩
theorem jic:wrV jcj=.int 1000000000000000001:=by
 have e:jcj=txI 1000000000000000001:=by decide +kernel
 rw[e]
 exact j4i (by decide) (by decide)
theorem wr_m1:wrV (Str.ofString "-1")=.int (-1):=by
 have e:Str.ofString "-1"=txI (-1):=by decide +kernel
 rw[e]
 exact j4i (by decide) (by decide)
def sgB (z:Str):Bool:=z.cps.toList.all (fun c=>(decide (48≤c) && decide (c≤57)) || decide (c=45) || (decide (97≤c) && decide (c≤122)) || (decide (65≤c) && decide (c≤90))) && decide (z.length≤30)
theorem j62 {z:Str} (h:sgB z=true):(∀ c∈z.cps.toList,okSg c∨(65≤c∧c≤90))∧z.length≤30:=by
 unfold sgB at h
 simp only[Bool.and_eq_true,decide_eq_true_eq,List.all_eq_true,Bool.or_eq_true] at h
 refine⟨fun c hc=>?_,h.2⟩
 rcases h.1 c hc with ((h | h) | h) | h
 ·exact .inl (.inl h)
 ·exact .inl (.inr (.inl h))
 ·exact .inl (.inr (.inr h))
 ·exact .inr h
theorem jau {n:Nat}{xs:List V} (h:xs.length≠n):Nw.wsh (n:Nat) xs=false:=by
 unfold Nw.wsh
 rw[decide_eq_false (by omega),Bool.false_and]
theorem jf5 {n:Int}{xs:List V}{x:V} (hx:x∈xs) (h:amt x=false):Nw.wsh n xs=false:=by
 unfold Nw.wsh
 have:xs.all amt=false:=by rw[List.all_eq_false];exact⟨x,hx,by rw[h];decide⟩
 rw[this,Bool.and_false]
def j63:Sp:=fun vs H Q _=>∃ (g:G83) (wd:Str) (p:Addr) (n:Int),vs=[.str wd,.ref p,.int n]∧GAt H g wd p∧0≤n∧∀ l H',j81 l→NoAsk g l→Ext H H'→Q (.str l) H'
theorem j64 (T:Txt w K mg a):FnOk P w K mg base (CXU P w) 2 a.f_z37 a.d_z37 ["_law_word","_law_start_here","_law_number"] (j63):=by
 refine T.F_z37.okU jet (fun vs H Q E h=>?_) (fun cdv A outer s H vs Q E hr h=>?_)
 ·obtain⟨g,wd,p,n,rfl,⟨hwd,hp,hok⟩,n0,hq⟩:=h
  rfl
 ·obtain⟨g,wd,p,n,rfl,⟨hwd,hp,hok⟩,n0,hq⟩:=h
  refine⟨_,(j02 (j0l (i:=3) jet.nd rfl (by first | exact Or.inl rfl | exact Or.inr rfl) (j0f j0y (j0f j0y j06 (j0f j8i j06 j05)) j06))
   (j02 (j12 (j0h (oEq hr) (pv 0) j06 (j0j _)) (j03 (j0c (j1h oIx (j0o (j00 (j0f j0y j06 (pv 3)) (j00 (j0f j0y j06 (pv 3)) (j00 j06 (j00 j06 j01))))) (j0f j0u (pv 2) j05) (fun _ _=>rfl)))) j0d)
   (j02 (j12 (j0h (oEq hr) (pv 0) j06 (j0j _)) (j03 (j0c (j1h oIx (j0o (j00 j06 (j00 (j0f j0y j06 (pv 3)) (j00 j06 (j00 j06 j01))))) (j0f j0u (pv 2) j05) (fun _ _=>rfl)))) j0d)
   (j02 (j12 (j0h (oEq hr) (pv 0) j06 (j0j _)) (j03 (j0c (j1h oIx (j0o (j00 j06 (j00 (j0f j0y j06 (j0n jkt (by rfl) T.n_str PyProof.Rows.boot_str (j00 (j0f j0y (j1h oIx (pv 1) j05 (fun _ _=>rfl)) j05) j01))) (j00 j06 (j00 j06 j01))))) (j0f j0u (pv 2) j05) (fun _ _=>rfl)))) j0d)
   (j02 (j12 (j0h (oEq hr) (pv 0) j06 (j0j _)) (j02 (j0l (i:=4) jet.nd rfl (by first | exact Or.inl rfl | exact Or.inr rfl) (j0f j0y (j0o (j00 j06 j01)) (j0f j8d (j0o (j00 j06 j01)) (j1h oIx (pv 1) j05 (fun _ _=>rfl)))))
   (j03 (j0c (j1h oIx (j0o (j00 (j8v PySem.F.plainAttrs_str PySem.F.slot_str_join PySem.F.type_str_join j2p j06 (j00 (j0f j0y (pv 4) (j0o (j00 j06 j01))) j01)) (j00 (j8v PySem.F.plainAttrs_str PySem.F.slot_str_join PySem.F.type_str_join j2p j06 (j00 (j1f oSl (pv 4) j21 (j1m (jfg j88 j05))) j01)) (j00 (j8v PySem.F.plainAttrs_str PySem.F.slot_str_join PySem.F.type_str_join j2p j06 (j00 (j0f j0y (j1f oSl (pv 4) j21 (j1m (jfg j88 j05))) (j0o (j00 j06 j01))) j01)) (j00 (j8v PySem.F.plainAttrs_str PySem.F.slot_str_join PySem.F.type_str_join j2p j06 (j00 (j0f j0y (j1f oSl (pv 4) j21 (j1m (jfg j88 j05))) (j0o (j00 (pv 3) j01))) j01)) j01))))) (j0f j0u (pv 2) j05) (fun _ _=>rfl))))) j0d)
   (j02 (j12 (j0h (oEq hr) (pv 0) j06 (j0j _)) (j03 (j0c (j1h oIx (j0o (j00 j06 (j00 j06 (j00 (j0f j0y (j0f j0y j06 (j1h oIx (pv 1) j05 (fun _ _=>rfl))) j06) (j00 j06 j01))))) (j0f j0u (pv 2) j05) (fun _ _=>rfl)))) j0d)
   (j03 (j0c (j1h oIx (j0o (j00 (j0f j0y (j0f j0y (j0f j0y j06 (j1h oIx (pv 1) j05 (fun _ _=>rfl))) j06) (j1h oIx (pv 1) j05 (fun _ _=>rfl))) (j00 j06 (j00 (j0f j0y j06 (j09 (j49 T) (hr.mono (by decide)) (by rfl) T.m_z22 T.F_z22.kp T.b_z22 .nil j0i (j00 (pv 1) j01))) (j00 j06 j01))))) (j0f j0u (pv 2) j05) (fun _ _=>rfl)))))))))),?_⟩
  walk_at "v"
  refine j7t (by decide) (by decide) (by decide) ?_
  walk_at "v"
  refine j0v (by decide) ?_
  walk_at "v"
  refine j0v (by decide) ?_
  have eo:Str.ofString "1"++mulS (Str.ofString "0") (17:Int).toNat++Str.ofString "1"=jcj:=rfl
  rw[eo]
  have ol:jcj.length=19:=by decide
  have ap:Str.ofString "ask "=askP:=rfl
  cases g with
  | line ns =>
   have hwd:wd=Str.ofString "line":=hwd
   walk_at "v"
   refine j0b ?_
   rw[show decide (wd=Str.ofString "line")=true by rw[hwd];decide]
   walk_at "v"
   refine j0v (by decide) ?_
   walk_at "v"
   refine j0v (by decide) ?_
   walk_at "v"
   intro l1 H1 n1 q1 e1
   have q1:H1 l1=some (.lst (jlx.map V.str)):=q1
   walk_at "v"
   obtain⟨l,hl,hat⟩:=at4 n (show jlx.length=4 from rfl)
   refine j26 q1 hat ?_
   have:=jib (f:=fun _=>true) jf2 hl
   exact hq l H1 this.1 (this.2.of (jf0 ns)) e1
  | hire W =>
   have hwd:wd=Str.ofString "hire":=hwd
   walk_at "v"
   refine j0b ?_
   rw[show decide (wd=Str.ofString "line")=false by rw[hwd];decide]
   walk_at "v"
   refine j0b ?_
   rw[show decide (wd=Str.ofString "hire")=true by rw[hwd];decide]
   walk_at "v"
   refine j0v (by decide) ?_
   walk_at "v"
   intro l1 H1 n1 q1 e1
   have q1:H1 l1=some (.lst (jly.map V.str)):=q1
   walk_at "v"
   obtain⟨l,hl,hat⟩:=at4 n (show jly.length=4 from rfl)
   refine j26 q1 hat ?_
   have:=jib (f:=fun _=>true) jf3 hl
   exact hq l H1 this.1 (this.2.of (jf1 W)) e1
  | bags R =>
   have hwd:wd=Str.ofString "bags":=hwd
   obtain⟨R1,R2⟩:=hok
   walk_at "v"
   refine j0b ?_
   rw[show decide (wd=Str.ofString "line")=false by rw[hwd];decide]
   walk_at "v"
   refine j0b ?_
   rw[show decide (wd=Str.ofString "hire")=false by rw[hwd];decide]
   walk_at "v"
   refine j0b ?_
   rw[show decide (wd=Str.ofString "bags")=true by rw[hwd];decide]
   walk_at "v"
   refine j11 hp rfl ?_
   walk_at "v"
   refine ja7 (by
    rw[Nat.log2_lt (by omega)]
    have:(1000000000000000002:Nat) < 2 ^ 1920:=by decide +kernel
    omega) ?_
   walk_at "v"
   have sR:=jhu (n:=R+1) (by omega) (by omega)
   refine j0v (by show 4+_≤_;omega) ?_
   walk_at "v"
   intro l1 H1 n1 q1 e1
   have q1:H1 l1=some (.lst ([Str.ofString "ask 0",askP++txI (R+1),Str.ofString "ask -1",Str.ofString "ask 1 1"].map V.str)):=q1
   walk_at "v"
   obtain⟨l,hl,hat⟩:=at4 n (show [Str.ofString "ask 0",askP++txI (R+1),Str.ofString "ask -1",Str.ofString "ask 1 1"].length=4 from rfl)
   refine j26 q1 hat ?_
   have key:j81 l∧NoAsk (.bags R) l:=by
    simp only[List.mem_cons,List.mem_nil_iff,or_false] at hl
    rcases hl with rfl | rfl | rfl | rfl
    ·rw[show Str.ofString "ask 0"=Str.join ⟨#[32]⟩ [askS,txI 0] by decide +kernel]
     refine j0t (fun z hz=>by rw[List.mem_singleton.mp hz];exact j62 (by decide +kernel)) (by simp) ?_
     show fot R (wrV (txI 0))=false
     rw[j4i (by decide) (by decide)]
     rfl
    ·rw[j71]
     refine j0t (fun z hz=>by rw[List.mem_singleton.mp hz];exact⟨fun c hc=>.inl (sR.1 c hc),by omega⟩) (by simp) ?_
     show fot R (wrV (txI (R+1)))=false
     rw[j4i (by omega) (by omega)]
     exact Nb.fot_no (by omega)
    ·rw[show Str.ofString "ask -1"=Str.join ⟨#[32]⟩ [askS,Str.ofString "-1"] by decide +kernel]
     refine j0t (fun z hz=>by rw[List.mem_singleton.mp hz];exact j62 (by decide +kernel)) (by simp) ?_
     show fot R (wrV (Str.ofString "-1"))=false
     rw[wr_m1]
     rfl
    ·rw[show Str.ofString "ask 1 1"=Str.join ⟨#[32]⟩ [askS,S1,S1] by decide +kernel]
     exact j0t (fun z hz=>by simp at hz;rw[hz];exact j62 (by decide +kernel)) (by simp) rfl
   exact hq l H1 key.1 key.2 e1
  | ways m t h =>
   have hwd:wd=Str.ofString "ways":=hwd
   obtain⟨m1,m8,h0,h1,t0,t1⟩:=hok
   walk_at "v"
   refine j0b ?_
   rw[show decide (wd=Str.ofString "line")=false by rw[hwd];decide]
   walk_at "v"
   refine j0b ?_
   rw[show decide (wd=Str.ofString "hire")=false by rw[hwd];decide]
   walk_at "v"
   refine j0b ?_
   rw[show decide (wd=Str.ofString "bags")=false by rw[hwd];decide]
   walk_at "v"
   refine j0b ?_
   rw[show decide (wd=Str.ofString "ways")=true by rw[hwd];decide]
   walk_at "v"
   intro l1 H1 n1 q1 e1
   walk_at "v"
   intro l2 H2 n2 q2 e2
   walk_at "v"
   refine j11 ((e1.tr e2) _ _ hp) rfl ?_
   walk_at "v"
   refine j3y q2 (by omega) (by omega) fun l3 H3 n3 q3 e3=>?_
   rw[Int.toNat_natCast] at q3
   walk_at "v"
   refine j0r ((e2.tr e3) _ _ q1) q3 (by simp;omega) fun l4 H4 n4 q4 e4=>?_
   have x4:=e1.tr (e2.tr (e3.tr e4))
   obtain⟨ps,hps⟩:∃ ps:List Str,ps=askS :: List.replicate m S1:=⟨_,rfl⟩
   have q4:H4 l4=some (.lst (ps.map V.str)):=by rw[q4,hps,List.map_cons,List.map_replicate];rfl
   have lps:ps.length=m+1:=by rw[hps];simp
   have dps:ps.take (ps.length-1)=askS :: List.replicate (m-1) S1:=by
    obtain⟨k,rfl⟩:∃ k,m=k+1:=⟨m-1,by omega⟩
    rw[lps,hps]
    simp[List.take_replicate]
   have mem:∀ k,∀ z∈List.replicate k S1,sgB z=true:=fun k z hz=>by rw[(List.mem_replicate.mp hz).2];decide +kernel
   have jl:∀ (ls:List Str),(∀ z∈ls,sgB z=true)→ls.length≤9→JoinOk ⟨#[32]⟩ (askS :: ls)=true:=fun ls hz h9=>jae 32 (k:=30) (n:=10) (fun z hz'=>by
    rcases List.mem_cons.mp hz' with rfl | hz'
    ·decide
    ·exact (j62 (hz z hz')).2) (by simp;omega) (by decide)
   have sp:Str.ofString " "=(⟨#[32]⟩:Str):=by decide
   walk_at "v"
   intro k1 G1 o1 p1 f1
   walk_at "v"
   refine j0r (f1 _ _ q4) p1 (by simp;omega) fun l5 H5 n5 q5 e5=>?_
   have q5:H5 l5=some (.lst ((askS :: (List.replicate m S1++[S1])).map V.str)):=by rw[q5,hps];simp[S1]
   walk_at "v"
   rw[sp]
   refine j3g q5 (jl _ (fun z hz=>(List.mem_append.mp hz).elim (mem m z) fun h=>by rw[List.mem_singleton.mp h];decide +kernel) (by simp;omega)) ?_
   have x5:=f1.tr e5
   walk_at "v"
   refine jcz (x5 _ _ q4) fun l6 H6 n6 q6 e6=>?_
   rw[jf4,dps] at q6
   walk_at "v"
   refine j3g q6 (jl _ (mem _) (by simp;omega)) ?_
   have x6:=x5.tr e6
   walk_at "v"
   refine jcz (x6 _ _ q4) fun l7 H7 n7 q7 e7=>?_
   rw[jf4,dps] at q7
   walk_at "v"
   intro k2 G2 o2 p2 f2
   walk_at "v"
   refine j0r (f2 _ _ q7) p2 (by simp;omega) fun l8 H8 n8 q8 e8=>?_
   have q8:H8 l8=some (.lst ((askS :: (List.replicate (m-1) S1++[Str.ofString "-1"])).map V.str)):=by rw[q8];simp
   walk_at "v"
   refine j3g q8 (jl _ (fun z hz=>(List.mem_append.mp hz).elim (mem _ z) fun h=>by rw[List.mem_singleton.mp h];decide +kernel) (by simp;omega)) ?_
   have x8:=x6.tr (e7.tr (f2.tr e8))
   walk_at "v"
   refine jcz (x8 _ _ q4) fun l9 H9 n9 q9 e9=>?_
   rw[jf4,dps] at q9
   walk_at "v"
   intro k3 G3 o3 p3 f3
   walk_at "v"
   refine j0r (f3 _ _ q9) p3 (by simp;omega) fun lA HA nA qA eA=>?_
   have qA:HA lA=some (.lst ((askS :: (List.replicate (m-1) S1++[jcj])).map V.str)):=by rw[qA];simp
   walk_at "v"
   refine j3g qA (jl _ (fun z hz=>(List.mem_append.mp hz).elim (mem _ z) fun h=>by rw[List.mem_singleton.mp h];decide +kernel) (by simp;omega)) ?_
   have xA:=x8.tr (e9.tr (f3.tr eA))
   walk_at "v"
   intro lB HB nB qB eB
   obtain⟨ls,els⟩:∃ ls:List Str,ls=[Str.join ⟨#[32]⟩ (askS :: (List.replicate m S1++[S1])),Str.join ⟨#[32]⟩ (askS :: List.replicate (m-1) S1),Str.join ⟨#[32]⟩ (askS :: (List.replicate (m-1) S1++[Str.ofString "-1"])),Str.join ⟨#[32]⟩ (askS :: (List.replicate (m-1) S1++[jcj]))]:=⟨_,rfl⟩
   have qB:HB lB=some (.lst (ls.map V.str)):=by rw[qB,els];rfl
   walk_at "v"
   obtain⟨l,hl,hat⟩:=at4 n (show ls.length=4 by rw[els];rfl)
   refine j26 qB hat ?_
   have sg:∀ (k:Nat) (x:Str),sgB x=true→∀ z∈List.replicate k S1++[x],(∀ c∈z.cps.toList,okSg c∨(65≤c∧c≤90))∧z.length≤30:=fun k x hx z hz=>j62 ((List.mem_append.mp hz).elim (mem k z) fun h=>by rw[List.mem_singleton.mp h];exact hx)
   have key:j81 l∧NoAsk (.ways m t h) l:=by
    rw[els] at hl
    simp only[List.mem_cons,List.mem_nil_iff,or_false] at hl
    rcases hl with rfl | rfl | rfl | rfl
    ·exact j0t (sg m S1 (by decide +kernel)) (by simp;omega) (jau (by simp))
    ·exact j0t (fun z hz=>j62 (mem _ z hz)) (by simp;omega) (jau (by simp;omega))
    ·exact j0t (sg _ _ (by decide +kernel)) (by simp;omega) (jf5 (x:=.int (-1)) (by rw[List.map_append];exact List.mem_append_right _ (by rw[List.map_cons,wr_m1];exact List.mem_cons_self)) rfl)
    ·exact j0t (sg _ _ (by decide +kernel)) (by simp;omega) (jf5 (x:=.int 1000000000000000001) (by rw[List.map_append];exact List.mem_append_right _ (by rw[List.map_cons,jic];exact List.mem_cons_self)) rfl)
   exact hq l HB key.1 key.2 (x4.tr (xA.tr eB))
  | store ss =>
   obtain⟨s0,sr,ess⟩:∃ s0 sr,ss=s0 :: sr:=by
    cases ss with
    | nil=>exact absurd hok.lo (by decide)
    | cons s0 sr=>exact⟨s0,sr,rfl⟩
   subst ess
   have hwd:wd=Str.ofString "store":=hwd
   have hs0:=hok.nm s0 List.mem_cons_self
   have l0:=j22 hs0
   walk_at "v"
   refine j0b ?_
   rw[show decide (wd=Str.ofString "line")=false by rw[hwd];decide]
   walk_at "v"
   refine j0b ?_
   rw[show decide (wd=Str.ofString "hire")=false by rw[hwd];decide]
   walk_at "v"
   refine j0b ?_
   rw[show decide (wd=Str.ofString "bags")=false by rw[hwd];decide]
   walk_at "v"
   refine j0b ?_
   rw[show decide (wd=Str.ofString "ways")=false by rw[hwd];decide]
   walk_at "v"
   refine j0b ?_
   rw[show decide (wd=Str.ofString "store")=true by rw[hwd];decide]
   walk_at "v"
   refine j11 hp (v:=.str s0) (j18 (by decide) rfl) ?_
   walk_at "v"
   refine j0v (by show 4+_≤_;omega) ?_
   walk_at "v"
   refine j0v (by rw[Str.length_append];show 4+_+1≤_;omega) ?_
   walk_at "v"
   intro l1 H1 n1 q1 e1
   have q1:H1 l1=some (.lst ([Str.ofString "ask a b",Str.ofString "ask 3",askP++s0++Str.ofString "A",Str.ofString "ask abcdefghi"].map V.str)):=q1
   walk_at "v"
   obtain⟨l,hl,hat⟩:=at4 n (show [Str.ofString "ask a b",Str.ofString "ask 3",askP++s0++Str.ofString "A",Str.ofString "ask abcdefghi"].length=4 from rfl)
   refine j26 q1 hat ?_
   have key:j81 l∧NoAsk (.store (s0 :: sr)) l:=by
    have fix:∀ l,(blB l && naG (.store []) l)=true→j81 l∧NoAsk (.store (s0 :: sr)) l:=fun l h=>by
     rw[Bool.and_eq_true] at h
     exact⟨jch h.1,(jia h.2).of (jci _)⟩
    simp only[List.mem_cons,List.mem_nil_iff,or_false] at hl
    rcases hl with rfl | rfl | rfl | rfl
    ·exact fix _ (by decide +kernel)
    ·exact fix _ (by decide +kernel)
    ·have mA:65∈(s0++Str.ofString "A").cps.toList:=by rw[appE];exact List.mem_append_right _ (by decide)
     rw[show askP++s0++Str.ofString "A"=askP++(s0++Str.ofString "A") from Str.append_assoc _ _ _,j71]
     have dA:∀ c∈(s0++Str.ofString "A").cps.toList,(97≤c∧c≤122)∨c=65:=fun c hc=>by
      rw[appE] at hc
      rcases List.mem_append.mp hc with h | h
      ·exact .inl (jey hs0 c h)
      ·right
       rw[show (Str.ofString "A").cps.toList=[65] by decide] at h
       exact List.mem_singleton.mp h
     refine j0t (fun z hz=>by
      rw[List.mem_singleton.mp hz]
      exact⟨fun c hc=>(dA c hc).elim (fun h=>.inl (.inr (.inr h))) (fun h=>.inr (by omega)),by rw[Str.length_append];show _+1≤_;omega⟩) (by simp) ?_
     show nmV (wrV (s0++Str.ofString "A"))=false
     have nf:figB (s0++Str.ofString "A")=false:=jcf mA rfl
     have ng:negB (s0++Str.ofString "A")=false:=by
      unfold negB
      have:figB (tlS (s0++Str.ofString "A"))=false:=by
       refine jcf (c:=65) ?_ rfl
       show 65∈(s0++Str.ofString "A").cps.toList.tail
       rw[appE]
       cases e:s0.cps.toList with
       | nil =>
        have:s0.cps.toList.length=s0.length:=Array.length_toList
        rw[e] at this
        simp at this
        omega
       | cons c r=>exact List.mem_append_right _ (by decide)
      rw[this,Bool.and_false,Bool.false_and]
     unfold wrV
     rw[nf,ng]
     exact nm_bad mA rfl
    ·exact fix _ (by decide +kernel)
   exact hq l H1 key.1 key.2 e1
  | shelf ss =>
   have hwd:wd=Str.ofString "shelf":=hwd
   obtain⟨s0,sr,ess⟩:∃ s0 sr,ss=s0 :: sr:=by
    cases ss with
    | nil=>exact absurd hok.lo (by decide)
    | cons s0 sr=>exact⟨s0,sr,rfl⟩
   have hs0:=hok.nm s0 (by rw[ess];exact List.mem_cons_self)
   have l0:=j22 hs0
   have hat0:atI (ss.map V.str) 0=some (.str s0):=by rw[ess];exact j18 (by decide) rfl
   walk_at "v"
   refine j0b ?_
   rw[show decide (wd=Str.ofString "line")=false by rw[hwd];decide]
   walk_at "v"
   refine j0b ?_
   rw[show decide (wd=Str.ofString "hire")=false by rw[hwd];decide]
   walk_at "v"
   refine j0b ?_
   rw[show decide (wd=Str.ofString "bags")=false by rw[hwd];decide]
   walk_at "v"
   refine j0b ?_
   rw[show decide (wd=Str.ofString "ways")=false by rw[hwd];decide]
   walk_at "v"
   refine j0b ?_
   rw[show decide (wd=Str.ofString "store")=false by rw[hwd];decide]
   walk_at "v"
   refine j11 hp hat0 ?_
   walk_at "v"
   refine j0v (by show 4+_≤_;omega) ?_
   walk_at "v"
   refine j0v (by rw[Str.length_append];show 4+_+1≤_;omega) ?_
   walk_at "v"
   refine j11 hp hat0 ?_
   walk_at "v"
   refine j0v (by rw[Str.length_append,Str.length_append];show 4+_+1+_≤_;omega) ?_
   walk_at "v"
   refine⟨p,ss,rfl,hp,hok,fun s H0 hs hns e0=>?_⟩
   have ls:=j22 hs
   walk_at "v"
   refine j0v (by show 4+_≤_;omega) ?_
   walk_at "v"
   intro l1 H1 n1 q1 e1
   have q1:H1 l1=some (.lst ([askP++s0++Str.ofString " "++s0,Str.ofString "ask 3",askP++s,Str.ofString "ask A"].map V.str)):=q1
   walk_at "v"
   obtain⟨l,hl,hat⟩:=at4 n (show [askP++s0++Str.ofString " "++s0,Str.ofString "ask 3",askP++s,Str.ofString "ask A"].length=4 from rfl)
   refine j26 q1 hat ?_
   have key:j81 l∧NoAsk (.shelf ss) l:=by
    simp only[List.mem_cons,List.mem_nil_iff,or_false] at hl
    rcases hl with rfl | rfl | rfl | rfl
    ·rw[show askP++s0++Str.ofString " "++s0=Str.join ⟨#[32]⟩ [askS,s0,s0] by
      show _=askS++(⟨#[32]⟩:Str)++(s0++(⟨#[32]⟩:Str)++s0)
      rw[show askP=askS++(⟨#[32]⟩:Str) by decide,show Str.ofString " "=(⟨#[32]⟩:Str) by decide]
      simp only[Str.append_assoc]]
     exact j0t (fun z hz=>by simp at hz;rw[hz];exact sgN hs0) (by simp) rfl
    ·rw[show Str.ofString "ask 3"=Str.join ⟨#[32]⟩ [askS,txI 3] by decide +kernel]
     refine j0t (fun z hz=>by rw[List.mem_singleton.mp hz];exact j62 (by decide +kernel)) (by simp) ?_
     show Ns.wsh (wrV (txI 3)) ss=false
     rw[j4i (by decide) (by decide)]
     rfl
    ·rw[j71]
     refine j0t (fun z hz=>by rw[List.mem_singleton.mp hz];exact sgN hs) (by simp) ?_
     show Ns.wsh (wrV s) ss=false
     rw[jag ls.1 (jey hs)]
     show (nmS s && decide (s∈ss))=false
     rw[decide_eq_false hns,Bool.and_false]
    ·rw[show Str.ofString "ask A"=Str.join ⟨#[32]⟩ [askS,Str.ofString "A"] by decide +kernel]
     refine j0t (fun z hz=>by rw[List.mem_singleton.mp hz];exact j62 (by decide +kernel)) (by simp) ?_
     show Ns.wsh (wrV (Str.ofString "A")) ss=false
     have e:wrV (Str.ofString "A")=.str (Str.ofString "A"):=by
      unfold wrV
      rw[show figB (Str.ofString "A")=false by decide +kernel,show negB (Str.ofString "A")=false by decide +kernel]
      rfl
     rw[e]
     show (nmS (Str.ofString "A") && decide (Str.ofString "A"∈ss))=false
     rw[show nmS (Str.ofString "A")=false by decide]
     rfl
   exact hq l H1 key.1 key.2 (e0.tr e1)
def badF0:List Str:=[Str.ofString "line",Str.ofString "line 2 1",Str.ofString "line 1 x",Str.ofString "line 01",Str.ofString "line -0",Str.ofString "line 1 2 3 4 5 6 7",Str.ofString "line 1  2",Str.ofString " line 1"]
def badF1:List Str:=[Str.ofString "line 1000000000000000001",Str.ofString "line -1000000000000000001",Str.ofString "Line 1",Str.ofString "shelf",Str.ofString "shelf a a"]
def badF2:List Str:=[Str.ofString "shelf abcdefghi",Str.ofString "shelf a b c d e f g h i",Str.ofString "shelf a1",Str.ofString "store",Str.ofString "store b a b",Str.ofString "store  a"]
def badF3:List Str:=[Str.ofString "hire 0",Str.ofString "hire -1",Str.ofString "hire 1 2",Str.ofString "hire 1000000000000000001",Str.ofString "hire x",Str.ofString "ways 0 1 0",Str.ofString "hire"]
def badF4:List Str:=[Str.ofString "ways 2 1 2",Str.ofString "ways 2 1",Str.ofString "ways 2 -1 0",Str.ofString "ways 2 1 -1",Str.ofString "ways 2 1 0 0",Str.ofString "ways a 1 0",Str.ofString "bags 0"]
def badF5:List Str:=[Str.ofString "bags 1 2",Str.ofString "bags -3",Str.ofString "game 1",Str.ofString "ask 1",Str.ofString " ",Str.ofString "line 1.0",Str.ofString "line +1",Str.ofString "hire "++mulS (Str.ofString "1") 20]
def badF6:List Str:=[Str.ofString "shelf\ta",Str.ofString "bags",Str.ofString "ways 9 1 0",Str.ofString "shelf A",Str.ofString "line 1 ",Str.ofString "line -01",Str.ofString "line -",Str.ofString "line -00",Str.ofString "line 1-"]
def badF:List Str:=((((((badF0++badF1)++badF2)++badF3)++badF4)++badF5)++badF6)
def j3r:Sp:=fun vs H Q _=>∃ n:Int,vs=[.int n]∧0≤n∧∀ l H',l∈badF→Ext H H'→Q (.str l) H'
theorem j3s (T:Txt w K mg a):FnOk P w K mg base (CXU P w) 1 a.f_z13 a.d_z13 ["_law_number"] (j3r):=by
 refine T.F_z13.okU j5r (fun vs H Q E h=>?_) (fun cdv A outer s H vs Q E hr h=>?_)
 ·obtain⟨n,rfl,n0,hq⟩:=h
  rfl
 ·obtain⟨n,rfl,n0,hq⟩:=h
  refine⟨_,(j02 (j0l (i:=1) j5r.nd rfl (by first | exact Or.inl rfl | exact Or.inr rfl) (j0o (j00 j06 (j00 j06 (j00 j06 (j00 j06 (j00 j06 (j00 j06 (j00 j06 (j00 j06 j01))))))))))
   (j02 (j0l (i:=1) j5r.nd rfl (by first | exact Or.inl rfl | exact Or.inr rfl) (j0f j0y (pv 1) (j0o (j00 j06 (j00 j06 (j00 j06 (j00 j06 (j00 j06 j01))))))))
   (j02 (j0l (i:=1) j5r.nd rfl (by first | exact Or.inl rfl | exact Or.inr rfl) (j0f j0y (pv 1) (j0o (j00 j06 (j00 j06 (j00 j06 (j00 j06 (j00 j06 (j00 j06 j01)))))))))
   (j02 (j0l (i:=1) j5r.nd rfl (by first | exact Or.inl rfl | exact Or.inr rfl) (j0f j0y (pv 1) (j0o (j00 j06 (j00 j06 (j00 j06 (j00 j06 (j00 j06 (j00 j06 (j00 j06 j01))))))))))
   (j02 (j0l (i:=1) j5r.nd rfl (by first | exact Or.inl rfl | exact Or.inr rfl) (j0f j0y (pv 1) (j0o (j00 j06 (j00 j06 (j00 j06 (j00 j06 (j00 j06 (j00 j06 (j00 j06 j01))))))))))
   (j02 (j0l (i:=1) j5r.nd rfl (by first | exact Or.inl rfl | exact Or.inr rfl) (j0f j0y (pv 1) (j0o (j00 j06 (j00 j06 (j00 j06 (j00 j06 (j00 j06 (j00 j06 (j00 j06 (j00 (j0f j0y j06 (j0f j8i j06 j05)) j01)))))))))))
   (j02 (j0l (i:=1) j5r.nd rfl (by first | exact Or.inl rfl | exact Or.inr rfl) (j0f j0y (pv 1) (j0o (j00 j06 (j00 j06 (j00 j06 (j00 j06 (j00 j06 (j00 j06 (j00 j06 (j00 j06 (j00 j06 j01))))))))))))
   (j03 (j0c (j1h oIx (pv 1) (j0f j0u (pv 0) (j08 j24 (by rfl) T.n_len PySem.boot_len (j00 (pv 1) j01))) (fun _ _=>rfl))))))))))),?_⟩
  walk_at "v"
  intro l0 H0 n0 q0 e0
  have q0:H0 l0=some (.lst (badF0.map V.str)):=q0
  have x0:=e0
  walk_at "v"
  intro k1 G1 m1 p1 f1
  have p1:G1 k1=some (.lst (badF1.map V.str)):=p1
  walk_at "v"
  refine j0r (f1 _ _ q0) p1 (by decide) fun l1 H1 n1 q1 e1=>?_
  rw[← List.map_append] at q1
  have x1:=x0.tr (f1.tr e1)
  walk_at "v"
  intro k2 G2 m2 p2 f2
  have p2:G2 k2=some (.lst (badF2.map V.str)):=p2
  walk_at "v"
  refine j0r (f2 _ _ q1) p2 (by decide) fun l2 H2 n2 q2 e2=>?_
  rw[← List.map_append] at q2
  have x2:=x1.tr (f2.tr e2)
  walk_at "v"
  intro k3 G3 m3 p3 f3
  have p3:G3 k3=some (.lst (badF3.map V.str)):=p3
  walk_at "v"
  refine j0r (f3 _ _ q2) p3 (by decide) fun l3 H3 n3 q3 e3=>?_
  rw[← List.map_append] at q3
  have x3:=x2.tr (f3.tr e3)
  walk_at "v"
  intro k4 G4 m4 p4 f4
  have p4:G4 k4=some (.lst (badF4.map V.str)):=p4
  walk_at "v"
  refine j0r (f4 _ _ q3) p4 (by decide) fun l4 H4 n4 q4 e4=>?_
  rw[← List.map_append] at q4
  have x4:=x3.tr (f4.tr e4)
  walk_at "v"
  refine j7t (by decide) (by decide) (by decide) ?_
  walk_at "v"
  refine j0v (by decide) ?_
  walk_at "v"
  intro k5 G5 m5 p5 f5
  have p5:G5 k5=some (.lst (badF5.map V.str)):=p5
  walk_at "v"
  refine j0r (f5 _ _ q4) p5 (by decide) fun l5 H5 n5 q5 e5=>?_
  rw[← List.map_append] at q5
  have x5:=x4.tr (f5.tr e5)
  walk_at "v"
  intro k6 G6 m6 p6 f6
  have p6:G6 k6=some (.lst (badF6.map V.str)):=p6
  walk_at "v"
  refine j0r (f6 _ _ q5) p6 (by decide) fun l6 H6 n6 q6 e6=>?_
  rw[← List.map_append] at q6
  have x6:=x5.tr (f6.tr e6)
  have q6:H6 l6=some (.lst (badF.map V.str)):=q6
  walk_at "v"
  refine j10 q6 ?_
  rw[List.length_map,show (badF.length:Int)=50 from rfl]
  obtain⟨j,ej,j1⟩:∃ j:Nat,n % 50=j∧j < badF.length:=⟨(n % 50).toNat,by omega,by show _ < 50;omega⟩
  walk_at "v"
  rw[ej]
  refine j26 q6 (v:=.str badF[j]) (j18 (by omega) (by rw[Int.toNat_natCast,List.getElem?_map,List.getElem?_eq_getElem j1];rfl)) ?_
  exact hq _ H6 (List.getElem_mem j1) x6
def badK0:List Str:=[Str.ofString "ask",Str.ofString "Ask 1",Str.ofString "ask  1",Str.ofString "ask 1 ",Str.ofString " ask 1",Str.ofString "say 1",Str.ofString "ask +1",Str.ofString "ask 1.5",Str.ofString "ask 00",Str.ofString "ask -0"]
def badK1:List Str:=[Str.ofString "ask 1_0",Str.ofString "ask\t1",Str.ofString "ask abcdefghi",Str.ofString "ask A",Str.ofString "ask "++mulS (Str.ofString "7") 20,Str.ofString "hire 4",Str.ofString "ask 0x1"]
def badK2:List Str:=[Str.ofString "line 3",Str.ofString " ",Str.ofString "ask 1,2",Str.ofString "ask -",Str.ofString "ask --1",Str.ofString "ask -01",Str.ofString "ask 1-",Str.ofString "ask -00"]
def badK:List Str:=((badK0++badK1)++badK2)
def j55:Sp:=fun vs H Q _=>∃ n:Int,vs=[.int n]∧0≤n∧∀ l H',l∈badK→Ext H H'→Q (.str l) H'
theorem j56 (T:Txt w K mg a):FnOk P w K mg base (CXU P w) 1 a.f_z26 a.d_z26 ["_law_number"] (j55):=by
 refine T.F_z26.okU jca (fun vs H Q E h=>?_) (fun cdv A outer s H vs Q E hr h=>?_)
 ·obtain⟨n,rfl,n0,hq⟩:=h
  rfl
 ·obtain⟨n,rfl,n0,hq⟩:=h
  refine⟨_,(j02 (j0l (i:=1) jca.nd rfl (by first | exact Or.inl rfl | exact Or.inr rfl) (j0o (j00 j06 (j00 j06 (j00 j06 (j00 j06 (j00 j06 (j00 j06 (j00 j06 (j00 j06 (j00 j06 (j00 j06 j01))))))))))))
   (j02 (j0l (i:=1) jca.nd rfl (by first | exact Or.inl rfl | exact Or.inr rfl) (j0f j0y (pv 1) (j0o (j00 j06 (j00 j06 (j00 j06 (j00 j06 (j00 (j0f j0y j06 (j0f j8i j06 j05)) (j00 j06 (j00 j06 j01))))))))))
   (j02 (j0l (i:=1) jca.nd rfl (by first | exact Or.inl rfl | exact Or.inr rfl) (j0f j0y (pv 1) (j0o (j00 j06 (j00 j06 (j00 j06 (j00 j06 (j00 j06 (j00 j06 (j00 j06 (j00 j06 j01)))))))))))
   (j03 (j0c (j1h oIx (pv 1) (j0f j0u (pv 0) (j08 j24 (by rfl) T.n_len PySem.boot_len (j00 (pv 1) j01))) (fun _ _=>rfl))))))),?_⟩
  walk_at "v"
  intro l0 H0 n0 q0 e0
  have q0:H0 l0=some (.lst (badK0.map V.str)):=q0
  have x0:=e0
  walk_at "v"
  refine j7t (by decide) (by decide) (by decide) ?_
  walk_at "v"
  refine j0v (by decide) ?_
  walk_at "v"
  intro k1 G1 m1 p1 f1
  have p1:G1 k1=some (.lst (badK1.map V.str)):=p1
  walk_at "v"
  refine j0r (f1 _ _ q0) p1 (by decide) fun l1 H1 n1 q1 e1=>?_
  rw[← List.map_append] at q1
  have x1:=x0.tr (f1.tr e1)
  walk_at "v"
  intro k2 G2 m2 p2 f2
  have p2:G2 k2=some (.lst (badK2.map V.str)):=p2
  walk_at "v"
  refine j0r (f2 _ _ q1) p2 (by decide) fun l2 H2 n2 q2 e2=>?_
  rw[← List.map_append] at q2
  have x2:=x1.tr (f2.tr e2)
  have q2:H2 l2=some (.lst (badK.map V.str)):=q2
  walk_at "v"
  refine j10 q2 ?_
  rw[List.length_map,show (badK.length:Int)=25 from rfl]
  obtain⟨j,ej,j1⟩:∃ j:Nat,n % 25=j∧j < badK.length:=⟨(n % 25).toNat,by omega,by show _ < 25;omega⟩
  walk_at "v"
  rw[ej]
  refine j26 q2 (v:=.str badK[j]) (j18 (by omega) (by rw[Int.toNat_natCast,List.getElem?_map,List.getElem?_eq_getElem j1];rfl)) ?_
  exact hq _ H2 (List.getElem_mem j1) x2
theorem jid:Txt.split (Str.ofString "") ⟨#[10]⟩=[⟨#[]⟩]:=by decide +kernel
theorem jf6:Txt.split (Str.ofString "\n\n") ⟨#[10]⟩=[⟨#[]⟩,⟨#[]⟩,⟨#[]⟩]:=by decide +kernel
def j4a (a:Adr):Sp:=fun vs H Q _=>vs=[]∧∀ H',Ext H H'→Q (.bl true) H'
theorem j4b (T:Txt w K mg a):FnOk P w K mg base (CXU P w) 14 a.f_z21 a.d_z21 [] (j4a a):=by
 refine T.F_z21.okU jhn (fun vs H Q E h=>?_) (fun cdv A outer s H vs Q E hr h=>?_)
 ·obtain⟨rfl,hq⟩:=h
  rfl
 ·obtain⟨rfl,hq⟩:=h
  refine⟨_,(j02 (j86 PassesOwn.never rfl (j5c (j0o (j00 j6b (j00 j05 (j00 j4c (j00 (j0o (j00 j06 j01)) (j00 (j2e (j00 j06 j01)) (j00 je3 j01)))))))) (j0p (i:=0) jhn.nd rfl (by first | exact Or.inl rfl | exact Or.inr rfl)) (j03 (j12 (j0w (ptT (j09 (j1a T) (hr.mono (by decide)) (by rfl) T.m_z27 T.F_z27.kp T.b_z27 .nil j0i (j00 (pv 0) (j00 j05 j01))) (fun _=>rfl))) (j03 (j0c j4c)) j0d)))
   (j03 (j0c (j1p (j09 (j1a T) (hr.mono (by decide)) (by rfl) T.m_z27 T.F_z27.kp T.b_z27 .nil j0i (j00 j06 (j00 j05 j01))) (j23 (j09 (j1a T) (hr.mono (by decide)) (by rfl) T.m_z27 T.F_z27.kp T.b_z27 .nil j0i (j00 j06 (j00 j05 j01)))))))),?_⟩
  walk_at "v"
  intro la H1 n1 q1 e1
  walk_at "v"
  intro tb H2 n2 q2 e2
  walk_at "v"
  intro dc H3 n3 q3 e3
  walk_at "v"
  intro l H4 n4 q4 e4
  have hks:∀ x∈[V.non,V.int 3,V.bl true,V.ref la,V.ref tb,V.ref dc],∃ k,HasK H4 x k∧k≠.str:=fun x hx=>by
   simp only[List.mem_cons,List.mem_nil_iff,or_false] at hx
   rcases hx with rfl | rfl | rfl | rfl | rfl | rfl
   ·exact⟨.non,rfl,by decide⟩
   ·exact⟨.int,rfl,by decide⟩
   ·exact⟨.bl,rfl,by decide⟩
   ·exact⟨.lst,HasK.l ((e2.tr (e3.tr e4)) _ _ q1),by decide⟩
   ·exact⟨.tup,HasK.t ((e3.tr e4) _ _ q2),by decide⟩
   ·exact⟨.dct,HasK.d (e4 _ _ q3),by decide⟩
  have x4:=e1.tr (e2.tr (e3.tr e4))
  walk_at "v"
  refine⟨l,rfl,⟨_,SqL.of q4⟩,j6d (xs:=[V.non,V.int 3,V.bl true,V.ref la,V.ref tb,V.ref dc]) (fun i σ H5=>(∃ u,σ=[u])∧Ext H4 H5) ⟨⟨none,rfl⟩,Ext.rfl'⟩ (fun i σ H5 _ h=>SqL.of (h.2 _ _ q4)) ?_ ?_⟩
  ·rintro i x σ H5 hx ⟨⟨u,rfl⟩,x5⟩
   obtain⟨k,hk,nk⟩:=hks x (List.mem_of_getElem? hx)
   walk_at "v"
   refine⟨x,0,rfl,.inl ⟨k,hk.mono x5,nk,rfl⟩,fun H6 e6=>?_⟩
   walk_at "v"
   exact⟨⟨_,rfl⟩,x5.tr e6⟩
  ·rintro σ H5 ⟨⟨u,rfl⟩,x5⟩
   walk_at "v"
   refine⟨_,0,rfl,.inr ⟨_,rfl,by decide,.inl ⟨by rw[jid];rfl,rfl⟩⟩,fun H6 e6=>?_⟩
   walk_at "v"
   refine⟨_,0,rfl,.inr ⟨_,rfl,by decide,.inl ⟨by rw[jf6];rfl,rfl⟩⟩,fun H7 e7=>?_⟩
   exact hq H7 (x4.tr (x5.tr (e6.tr e7)))
def j3t:Sp:=fun vs H Q _=>∃ v,vs=[v]∧((∃ (p:Addr) (xs:List V),v=.ref p∧H p=some (.tup xs)∧(∀ x∈xs,ClV x)∧xs.length≤8∧∀ H',Ext H H'→Q (.str (Str.join ⟨#[32]⟩ (xs.map txV))) H')∨(ClV v∧Q (.str (txV v)) H))
theorem j1x (T:Txt w K mg a):FnOk P w K mg base (CXU P w) 1 a.f_z53 a.d_z53 ["_law_thing"] (j3t):=by
 refine T.F_z53.okU sc_z53 (fun vs H Q E h=>?_) (fun cdv A outer s H vs Q E hr h=>?_)
 ·obtain⟨v,rfl,hv⟩:=h
  rfl
 ·obtain⟨v,rfl,hv⟩:=h
  refine⟨_,(j02 (j12 (ptT (j08 j59 (by rfl) T.n_isinstance PyProof.Rows.boot_isinstance (j00 (pv 0) (j00 (j17 (v:=V.ty "tuple") (by rfl) T.n_tuple PyProof.Rows.boot_tuple rfl) j01))) (fun _=>rfl)) (j03 (j0c (j8v PySem.F.plainAttrs_str PySem.F.slot_str_join PySem.F.type_str_join j2p j06 (j00 (j1r (["_law_part"]:List Str) ([]:List Str) [] rfl ⟨rfl,by decide +kernel,by decide +kernel,by rfl,trivial⟩ (j8z (pv 0)) (fun _ _ _ _=>⟨(j0p (i:=0) (by show ((["_law_part"]:List Str)++([]:List Str)).Nodup;decide +kernel) rfl (by first | exact Or.inl rfl | exact Or.inr rfl)),(show PTs _ [] [] from trivial),(j0n jkt (by rfl) T.n_str PyProof.Rows.boot_str (j00 (pv 0) j01))⟩)) j01)))) j0d)
   (j03 (j0c (j0n jkt (by rfl) T.n_str PyProof.Rows.boot_str (j00 (pv 0) j01))))),?_⟩
  have big:∀ n:Int,-1000000000000000000≤n→n≤1000000000000000000→n.natAbs.log2 < 1920:=fun n h0 h1=>by
   rcases Nat.eq_zero_or_pos n.natAbs with e | e
   ·rw[e];decide
   ·rw[Nat.log2_lt (by omega)]
    have:(1000000000000000000:Nat) < 2 ^ 1920:=by decide +kernel
    omega
  rcases hv with⟨p,xs,rfl,hp,hx,hl,hq⟩ | ⟨hv,hq⟩
  ·walk_at "v"
   refine j69 (HasK.t hp) ?_
   walk_at "v"
   refine⟨p,rfl,⟨_,SqT.of hp⟩,fun acc hn _ _ _ _=>j4r (SqT.of hp) (by omega) hn (fun i ys _=>ys=((xs.take i).map txV).map V.str) (by simp) (fun _ _ _ _ _ h=>h) (fun i ys H' _ h=>by rw[h];simp;omega) ?_ ?_⟩
   ·intro i x ys H2 hx2 e h Y N hY hN
    have hc:=hx x (List.mem_of_getElem? hx2)
    have et:((xs.take (i+1)).map txV).map V.str=ys++[.str (txV x)]:=by rw[List.take_succ,hx2,h];simp
    walk_at "v"
    cases x with
    | int n =>
     refine ja7 (big n hc.1 hc.2) ?_
     exact hY _ _ Ext.rfl' et.symm
    | str z =>
     refine jdd ?_
     exact hY _ _ Ext.rfl' et.symm
    | _=>exact hc.elim
   ·intro ys H2 e2 q2 h
    rw[List.take_length] at h
    subst h
    walk_at "v"
    rw[show Str.ofString " "=(⟨#[32]⟩:Str) by decide]
    refine j3g q2 (jae 32 (k:=20) (n:=8) (fun z hz=>?_) (by rw[List.length_map];exact hl) (by decide)) ?_
    ·obtain⟨v,h1,rfl⟩:=List.mem_map.mp hz
     exact (hx v h1).sg.2.2
    exact hq H2 e2
  ·cases v with
   | int n =>
    walk_at "v"
    refine j69 (k:=.int) rfl ?_
    walk_at "v"
    refine ja7 (big n hv.1 hv.2) ?_
    exact hq
   | str z =>
    walk_at "v"
    refine j69 (k:=.str) rfl ?_
    walk_at "v"
    refine jdd ?_
    exact hq
   | _=>exact hv.elim
def idxN:List Str→Nat→List Nat
 | [],_=>[]
 | z :: r,b=>if z=⟨#[]⟩ then idxN r (b+1) else b :: idxN r (b+1)
theorem jav (z:Str):∀ (l:List Str) (b:Nat),idxN (l++[z]) b=idxN l b++(if z=⟨#[]⟩ then [] else [b+l.length])
 | [],b=>rfl
 | y :: r,b=>by
  show (if y=⟨#[]⟩ then idxN (r++[z]) (b+1) else b :: idxN (r++[z]) (b+1))=(if y=⟨#[]⟩ then idxN r (b+1) else b :: idxN r (b+1))++_
  rw[jav z r,show b+1+r.length=b+(y :: r).length by rw[List.length_cons];omega]
  split <;> rfl
theorem j82:∀ (l:List Str) (b:Nat),(idxN l b).length=(l.filter fun x=>!decide (x=⟨#[]⟩)).length
 | [],_=>rfl
 | y :: r,b=>by
  show (if y=⟨#[]⟩ then idxN r (b+1) else b :: idxN r (b+1)).length=_
  by_cases h:y=⟨#[]⟩
  ·rw[if_pos h,j82 r,List.filter_cons_of_neg (by simp[h])]
  ·rw[if_neg h,List.filter_cons_of_pos (by simp[h]),List.length_cons,List.length_cons,j82 r]
theorem jf7:∀ (l:List Str) (b j k:Nat),(idxN l b)[j]?=some k→b≤k∧k-b < l.length∧((l.take (k-b)).filter fun x=>!decide (x=⟨#[]⟩))=(l.filter fun x=>!decide (x=⟨#[]⟩)).take j
 | [],b,j,k,h=>by simp[idxN] at h
 | y :: r,b,j,k,h=>by
  have h:(if y=⟨#[]⟩ then idxN r (b+1) else b :: idxN r (b+1))[j]?=some k:=h
  by_cases c:y=⟨#[]⟩
  ·rw[if_pos c] at h
   obtain⟨h1,h2,h3⟩:=jf7 r (b+1) j k h
   obtain⟨m,rfl⟩:∃ m,k=b+1+m:=⟨k-(b+1),by omega⟩
   rw[show b+1+m-(b+1)=m by omega] at h2 h3
   refine⟨by omega,by rw[List.length_cons];omega,?_⟩
   rw[show b+1+m-b=m+1 by omega,List.take_succ_cons,List.filter_cons_of_neg (by simp[c]),List.filter_cons_of_neg (by simp[c]),h3]
  ·rw[if_neg c] at h
   cases j with
   | zero =>
    simp at h
    subst h
    refine⟨Nat.le_refl _,by simp,by simp⟩
   | succ j =>
    rw[List.getElem?_cons_succ] at h
    obtain⟨h1,h2,h3⟩:=jf7 r (b+1) j k h
    obtain⟨m,rfl⟩:∃ m,k=b+1+m:=⟨k-(b+1),by omega⟩
    rw[show b+1+m-(b+1)=m by omega] at h2 h3
    refine⟨by omega,by rw[List.length_cons];omega,?_⟩
    rw[show b+1+m-b=m+1 by omega,List.take_succ_cons,List.filter_cons_of_pos (by simp[c]),List.filter_cons_of_pos (by simp[c]),List.take_succ_cons,h3]
theorem cut_to (fs:List Str) {k:Nat} (h:k≤fs.length):cutV (fs.map V.str) none (some ((k:Nat):Int))=(fs.take k).map V.str:=by
 unfold cutV
 rw[HT.sIx_none,HT.sIx_nat,List.length_map,Nat.min_eq_left h,List.drop_zero,Nat.sub_zero,List.map_take]
theorem cut_from (fs:List Str) {k:Nat} (h:k≤fs.length):cutV (fs.map V.str) (some ((k:Nat):Int)) none=(fs.drop k).map V.str:=by
 unfold cutV
 rw[HT.sIx_none,HT.sIx_nat,List.length_map,Nat.min_eq_left h,← List.map_drop]
 exact List.take_of_length_le (by rw[List.length_map,List.length_drop];exact Nat.le_refl _)
def jaw:Sp:=fun vs H Q _=>∃ (lp:Addr) (fs:List Str) (j:Nat) (l:Str),vs=[.ref lp,.int (j:Nat),.str l]∧H lp=some (.lst (fs.map V.str))∧fs.length≤1000∧∀ (t l2:Addr) (pl:Nat) (H':Hp),H' t=some (.tup [.ref l2,.int (pl:Nat)])→H' l2=some (.lst ((fs.take pl++[l]++fs.drop pl).map V.str))→pl≤fs.length→((fs.take pl).filter fun x=>!decide (x=⟨#[]⟩))=(fs.filter fun x=>!decide (x=⟨#[]⟩)).take j→Ext H H'→Q (.ref t) H'
theorem jax (T:Txt w K mg a):FnOk P w K mg base (CXU P w) 1 a.f_z60 a.d_z60 ["_law_lines_here","_law_at","_law_line"] (jaw):=by
 refine T.F_z60.okU jcb (fun vs H Q E h=>?_) (fun cdv A outer s H vs Q E hr h=>?_)
 ·obtain⟨lp,fs,j,l,rfl,hlp,hl,hq⟩:=h
  rfl
 ·obtain⟨lp,fs,j,l,rfl,hlp,hl,hq⟩:=h
  refine⟨_,(j02 (j5l (i:=3) (["_law_k"]:List Str) (["_law_lines_here"]:List Str) [0] jcb.nd rfl (Or.inl rfl) rfl ⟨rfl,by decide +kernel,by decide +kernel,by rfl,⟨⟨rfl,by first | exact Or.inl rfl | exact Or.inr rfl,by first | exact Or.inl rfl | exact Or.inr rfl⟩,trivial⟩⟩ (j1u rfl T.n_range (j00 (j08 j24 (by rfl) T.n_len PySem.boot_len (j00 (pv 0) j01)) j01)) (fun _ _ _ _=>⟨(j0p (i:=0) (by show ((["_law_k"]:List Str)++(["_law_lines_here"]:List Str)).Nodup;decide +kernel) rfl (by first | exact Or.inl rfl | exact Or.inr rfl)),(show PTs _ [_] [_] from⟨(j0h (oNe hr) (j1h oIx (pv 1) (pv 0) (fun _ _=>rfl)) j06 (j0j _)),trivial⟩),(pv 0)⟩))
   (j02 (j0l (i:=4) jcb.nd rfl (by first | exact Or.inl rfl | exact Or.inr rfl) (j08 j24 (by rfl) T.n_len PySem.boot_len (j00 (pv 0) j01)))
   (j02 (j12 (j0h jfq (pv 1) (j08 j24 (by rfl) T.n_len PySem.boot_len (j00 (pv 3) j01)) (j0j _)) (j03 (j0l (i:=4) jcb.nd rfl (by first | exact Or.inl rfl | exact Or.inr rfl) (j1h oIx (pv 3) (pv 1) (fun _ _=>rfl)))) j0d)
   (j03 (j0c (j2e (j00 (j0f j0y (j0f j0y (j1f oSl (pv 0) j21 (j1m (pv 4))) (j0o (j00 (pv 2) j01))) (j1f oSl (pv 0) (j1m (pv 4)) j21)) (j00 (pv 4) j01)))))))),?_⟩
  walk_at "v"
  refine j10 hlp ?_
  rw[List.length_map]
  walk_at "v"
  refine⟨_,rfl,by omega,by omega,fun acc hn _ _ _ _=>j2m (by omega) hn (fun i ys _=>ys=(idxN (fs.take i) 0).map fun k=>V.int (k:Nat)) rfl (fun _ _ _ _ _ h=>h) (fun i ys H' _ h=>by rw[h,List.length_map,j82];exact Nat.le_trans (List.length_filter_le _ _) (by rw[List.length_take];omega)) ?_ ?_⟩
  ·intro i ys H2 hi e h Y N hY hN
   rw[show ((0:Int)+(i:Nat))=(i:Nat) by omega]
   have hi':i < fs.length:=by omega
   have et:fs.take (i+1)=fs.take i++[fs[i]]:=by rw[List.take_succ,List.getElem?_eq_getElem hi'];rfl
   rw[et,jav,List.length_take,Nat.min_eq_left (by omega),Nat.zero_add] at hY hN
   walk_at "v"
   refine j26 (e _ _ hlp) (v:=.str fs[i]) (j18 (by omega) (by rw[Int.toNat_natCast,List.getElem?_map,List.getElem?_eq_getElem hi'];rfl)) ?_
   walk_at "v"
   refine j6n ?_
   rw[show Str.ofString ""=(⟨#[]⟩:Str) by decide]
   generalize fs[i]=y at *
   walk_at "v"
   refine iteN (fun c=>?_) (fun c=>?_)
   ·walk_at "v"
    exact hY _ _ Ext.rfl' (by rw[if_neg c,h,List.map_append];rfl)
   ·exact hN _ Ext.rfl' (by rw[if_pos c,h,List.append_nil])
  intro ys H2 e2 q2 hys
  rw[Int.toNat_natCast,List.take_length] at hys
  subst hys
  have hlp2:=e2 _ _ hlp
  have fin:∀ (pl:Nat) (H3:Hp),pl≤fs.length→((fs.take pl).filter fun x=>!decide (x=⟨#[]⟩))=(fs.filter fun x=>!decide (x=⟨#[]⟩)).take j→Ext H H3→True:=fun _ _ _ _ _=>trivial
  walk_at "v"
  refine j10 hlp2 ?_
  rw[List.length_map]
  walk_at "vs"
  with_reducible refine j6q (fun σ' H4=>∃ pl:Nat,σ'=[some (.ref lp),some (.int (j:Nat)),some (.str l),some (.ref acc),some (.int (pl:Nat))]∧H4=H2∧pl≤fs.length∧((fs.take pl).filter fun x=>!decide (x=⟨#[]⟩))=(fs.filter fun x=>!decide (x=⟨#[]⟩)).take j) ?_ (fun hK=>?_)
  rotate_left
  ·walk_at "v"
   refine j10 q2 ?_
   rw[List.length_map]
   walk_at "v"
   refine iteD (fun c=>?_) (fun c=>?_)
   ·have hj:j < (idxN fs 0).length:=by omega
    have hg:=List.getElem?_eq_getElem hj
    obtain⟨_,h2,h3⟩:=jf7 fs 0 j _ hg
    rw[Nat.sub_zero] at h2 h3
    walk_at "v"
    refine j26 q2 (v:=.int ((idxN fs 0)[j]:Nat)) (j18 (by omega) (by rw[Int.toNat_natCast,List.getElem?_map,hg];rfl)) ?_
    repeat (first | exact hK _ _ ⟨(idxN fs 0)[j],rfl,rfl,by omega,h3⟩ | walk_at "vs")
   ·have hf:=j82 fs 0
    repeat (first | exact hK _ _ ⟨fs.length,rfl,rfl,Nat.le_refl _,by rw[List.take_length,List.take_of_length_le (by omega)]⟩ | walk_at "vs")
  ·rintro σ' H4 ⟨pl,rfl,rfl,hpl,hfl⟩
   walk_at "v"
   refine jcz hlp2 fun l3 H3 n3 q3 e3=>?_
   rw[cut_to fs hpl] at q3
   walk_at "v"
   intro l4 H4 n4 q4 e4
   walk_at "v"
   refine j0r (e4 _ _ q3) q4 (by simp;omega) fun l5 H5 n5 q5 e5=>?_
   have x5:=e3.tr (e4.tr e5)
   walk_at "v"
   refine jcz (x5 _ _ hlp2) fun l6 H6 n6 q6 e6=>?_
   rw[cut_from fs hpl] at q6
   walk_at "v"
   refine j0r (e6 _ _ q5) q6 (by simp;omega) fun l7 H7 n7 q7 e7=>?_
   walk_at "v"
   intro t H8 n8 q8 e8
   exact hq t l7 pl H8 q8 (by rw[e8 _ _ q7];simp) hpl hfl (e2.tr (x5.tr (e6.tr (e7.tr e8))))
def j72:Sp:=fun vs H Q _=>∃ c k,vs=[.int c,.int k]∧0≤k∧k≤1000000∧∀ n,0≤n→n < 2147483629→Q (.int n) H
theorem j15 (T:Txt w K mg a):FnOk P w K mg base (CXU P w) 1 a.f_z48 a.d_z48 ["_law_cell_here","_law_k"] (j72):=by
 refine T.F_z48.okU jho (fun vs H Q E h=>?_) (fun cdv A outer s H vs Q E hr h=>?_)
 ·obtain⟨c,k,rfl,h0,h1,hq⟩:=h
  rfl
 ·obtain⟨c,k,rfl,h0,h1,hq⟩:=h
  refine⟨_,(j02 (j0l (i:=2) jho.nd rfl (by first | exact Or.inl rfl | exact Or.inr rfl) (j0f j0u (j0f j0y (j0f j0y (j0f j8i (j0f j0u (pv 0) j05) j05) (j0f j8i (j0f j8i j05 (pv 1)) (pv 1))) j05) j05))
   (j03 (j0c (j0f j0u (j0f j8i (pv 2) (pv 2)) j05)))),?_⟩
  walk_at "v"
  exact hq _ (by omega) (by omega)
def j8q (K:PySem.W.Frag):Sp:=fun vs H Q _=>∃ (p:Addr) (ns:List Int) (k:Int),vs=[.ref p,.int k]∧SqL K H p (ns.map V.int)∧0≤k∧(∀ z∈ns,ib z≤1048576)∧∀ c,ib c≤1048576→Q (.int c) H
theorem j29 (T:Txt w K mg a):FnOk P w K mg base (CXU P w) 1 a.f_z56 a.d_z56 ["_law_script","_law_k"] (j8q K):=by
 refine T.F_z56.okU sc_z56 (fun vs H Q E h=>?_) (fun cdv A outer s H vs Q E hr h=>?_)
 ·obtain⟨p,ns,k,rfl,hS,hk,hb,hq⟩:=h
  rfl
 ·obtain⟨p,ns,k,rfl,hS,hk,hb,hq⟩:=h
  refine⟨_,(j02 (j12 (j0h jfq (pv 1) (j08 j24 (by rfl) T.n_len PySem.boot_len (j00 (pv 0) j01)) (j0j _)) (j03 (j0c (j1h oIx (pv 0) (pv 1) (fun _ _=>rfl)))) j0d)
   (j03 (j0c j05))),?_⟩
  walk_at "v"
  refine jh5 hS ?_
  walk_at "v"
  rw[List.length_map]
  refine iteD (fun h=>?_) (fun h=>?_)
  ·walk_at "v"
   have hl:k.toNat < ns.length:=by omega
   refine r_ixS hS (v:=.int ns[k.toNat]) (j18 hk (by rw[List.getElem?_map,List.getElem?_eq_getElem hl];rfl)) ?_
   exact hq _ (hb _ (List.getElem_mem hl))
  ·walk_at "v"
   exact hq 0 (by decide)
theorem j8r (a b:List Str):((a++b).filter fun x=>!decide (x=(⟨#[]⟩:Str)))=(a.filter fun x=>!decide (x=⟨#[]⟩))++b.filter fun x=>!decide (x=⟨#[]⟩):=List.filter_append ..
theorem jf8 (k:Nat):((List.replicate k (⟨#[]⟩:Str)).filter fun x=>!decide (x=⟨#[]⟩))=[]:=by
 rw[List.filter_eq_nil_iff]
 intro x hx
 rw[(List.mem_replicate.mp hx).2]
 simp
theorem jie {z:Str} (h:1≤z.length):z≠⟨#[]⟩:=fun e=>by rw[e] at h;exact absurd h (by decide)
def j65 (K:PySem.W.Frag):Sp:=fun vs H Q _=>∃ (p lp:Addr) (cs:List Int) (zs:List Str),vs=[.ref p,.ref lp]∧SqL K H p (cs.map V.int)∧(∀ z∈cs,ib z≤1048576)∧H lp=some (.lst (zs.map V.str))∧(∀ z∈zs,LnOk z)∧zs.length≤201∧∀ (f:Addr) (fs:List Str) (H':Hp),H f=none→H' f=some (.lst (fs.map V.str))→(∀ x∈fs,x=⟨#[]⟩∨x∈zs)→(fs.filter fun x=>!decide (x=⟨#[]⟩))=zs→fs.length≤3 * zs.length→Ext H H'→Q (.ref f) H'
theorem j66 (T:Txt w K mg a):FnOk P w K mg base (CXU P w) 2 a.f_z38 a.d_z38 ["_law_script","_law_lines_here"] (j65 K):=by
 refine T.F_z38.okU jcc (fun vs H Q E h=>?_) (fun cdv A outer s H vs Q E hr h=>?_)
 ·obtain⟨p,lp,cs,zs,rfl,hS,hb,hlp,hz,h2,hq⟩:=h
  rfl
 ·obtain⟨p,lp,cs,zs,rfl,hS,hb,hlp,hz,h2,hq⟩:=h
  refine⟨_,(j02 (j0l (i:=2) jcc.nd rfl (by first | exact Or.inl rfl | exact Or.inr rfl) (j0o j01))
   (j02 (j86 PassesOwn.never rfl (j1u rfl T.n_range (j00 (j08 j24 (by rfl) T.n_len PySem.boot_len (j00 (pv 1) j01)) j01)) (j0p (i:=3) jcc.nd rfl (by first | exact Or.inl rfl | exact Or.inr rfl)) (j02 (j0l (i:=2) jcc.nd rfl (by first | exact Or.inl rfl | exact Or.inr rfl) (j0f j0y (pv 2) (j0f j8d (j0o (j00 j06 j01)) (j1h oIx (j0o (j00 j05 (j00 j05 (j00 j05 (j00 j05 (j00 j05 j01)))))) (j0f j0u (j09 (j15 T) (hr.mono (by decide)) (by rfl) T.m_z48 T.F_z48.kp T.b_z48 .nil j0i (j00 (j09 (j29 T) (hr.mono (by decide)) (by rfl) T.m_z56 T.F_z56.kp T.b_z56 .nil j0i (j00 (pv 0) (j00 j05 j01))) (j00 (j0f j0y j05 (pv 3)) j01))) j05) (fun _ _=>rfl)))))
   (j03 (j2i (jjc PySem.F.plainAttrs_list PySem.F.slot_list_append PySem.F.type_list_append j39 (pv 2) (j00 (j1h oIx (pv 1) (pv 3) (fun _ _=>rfl)) j01))))))
   (j03 (j0c (pv 2))))),?_⟩
  have e0:Str.ofString ""=(⟨#[]⟩:Str):=by decide
  walk_at "v"
  intro l1 H1 n1 q1 e1
  walk_at "v"
  refine j10 (e1 _ _ hlp) ?_
  rw[List.length_map]
  walk_at "v"
  refine⟨_,rfl,by omega,by omega,j7b (fun i σ H2=>∃ (u:Option V) (f:Addr) (fs:List Str),σ=[some (.ref p),some (.ref lp),some (.ref f),u]∧Ext H H2∧H2 f=some (.lst (fs.map V.str))∧H f=none∧(∀ x∈fs,x=⟨#[]⟩∨x∈zs)∧(fs.filter fun x=>!decide (x=⟨#[]⟩))=zs.take i∧fs.length≤3 * i) ⟨none,l1,[],rfl,e1,q1,n1,(fun x hx=>by cases hx),by simp,by simp⟩ ?_ ?_⟩
  ·rintro i σ H2 hi ⟨u,f,fs,rfl,x2,q2,nf,hm,hfl,hln⟩
   rw[show ((0:Int)+(i:Nat))=(i:Nat) by omega]
   have hi':i < zs.length:=by omega
   walk_at "v"
   intro l3 H3 n3 q3 e3
   walk_at "v"
   intro l4 H4 n4 q4 e4
   have x4:=x2.tr (e3.tr e4)
   walk_at "v"
   refine⟨p,cs,0,rfl,x4.seqL hS,by decide,hb,fun c hc=>?_⟩
   walk_at "v"
   refine⟨_,_,rfl,by omega,by omega,fun n n0 n1'=>?_⟩
   walk_at "v"
   obtain⟨k,hk,k2⟩:∃ k:Nat,atI [V.int 0,V.int 0,V.int 0,V.int 1,V.int 2] (n % 5)=some (.int (k:Nat))∧k≤2:=by
    have h5:n % 5=0∨n % 5=1∨n % 5=2∨n % 5=3∨n % 5=4:=by omega
    rcases h5 with e | e | e | e | e <;> rw[e]
    ·exact⟨0,rfl,by decide⟩
    ·exact⟨0,rfl,by decide⟩
    ·exact⟨0,rfl,by decide⟩
    ·exact⟨1,rfl,by decide⟩
    ·exact⟨2,rfl,by decide⟩
   refine j26 q4 hk ?_
   walk_at "v"
   refine j3y (e4 _ _ q3) (by omega) (by omega) fun l5 H5 n5 q5 e5=>?_
   have x5:=x4.tr e5
   rw[Int.toNat_natCast,e0,show List.replicate k (V.str ⟨#[]⟩)=(List.replicate k (⟨#[]⟩:Str)).map V.str by rw[List.map_replicate]] at q5
   have q25:=((e3.tr e4).tr e5) _ _ q2
   walk_at "v"
   refine j0r q25 q5 (by simp;omega) fun l6 H6 n6 q6 e6=>?_
   have x6:=x5.tr e6
   rw[← List.map_append] at q6
   walk_at "v"
   refine j26 (x6 _ _ hlp) (v:=.str zs[i]) (j18 (by omega) (by rw[Int.toNat_natCast,List.getElem?_map,List.getElem?_eq_getElem hi'];rfl)) ?_
   have hzi:=hz _ (List.getElem_mem hi')
   have hmi:=List.getElem_mem hi'
   have etk:zs.take (i+1)=zs.take i++[zs[i]]:=by rw[List.take_succ,List.getElem?_eq_getElem hi'];rfl
   generalize zs[i]=y at *
   walk_at "v"
   refine j6l q6 (by simp;omega) fun H7 q7 b7=>?_
   refine⟨_,l6,fs++List.replicate k ⟨#[]⟩++[y],rfl,Ext.but x6 b7 (x5.free n6),by rw[q7];simp,x5.free n6,fun x hx=>?_,?_,by simp;omega⟩
   ·rcases List.mem_append.mp hx with hx | hx
    ·rcases List.mem_append.mp hx with hx | hx
     ·exact hm x hx
     ·exact .inl (List.mem_replicate.mp hx).2
    ·rw[List.mem_singleton.mp hx];exact .inr hmi
   ·rw[j8r,j8r,jf8,hfl,etk,List.append_nil,List.filter_cons_of_pos (by simp[jie hzi.2.1]),List.filter_nil]
  ·rintro σ H2 ⟨u,f,fs,rfl,x2,q2,nf,hm,hfl,hln⟩
   rw[Int.toNat_natCast,List.take_length] at hfl
   rw[Int.toNat_natCast] at hln
   walk_at "v"
   exact hq f fs H2 nf q2 hm hfl hln x2
def j73:Sp:=fun vs H Q _=>∃ (g:G83) (wd:Str) (p wl:Addr) (ws:List W83) (wvs:List V),vs=[.str wd,.ref p,.ref wl]∧GAt H g wd p∧H wl=some (.lst wvs)∧AllW H ws wvs∧(∀ w∈ws,g.rs.okW w)∧ws.length≤200∧∀ l H',H l=none→H' l=some (.lst ((lnG g :: ws.map lnW).map V.str))→Ext H H'→Q (.ref l) H'
theorem j74 (T:Txt w K mg a):FnOk P w K mg base (CXU P w) 2 a.f_z47 a.d_z47 ["_law_word","_law_start_here","_law_wishes"] (j73):=by
 refine T.F_z47.okU sc_z47 (fun vs H Q E h=>?_) (fun cdv A outer s H vs Q E hr h=>?_)
 ·obtain⟨g,wd,p,wl,ws,wvs,rfl,⟨hwd,hp,hok⟩,hwl,haw,hws,hl,hq⟩:=h
  rfl
 ·obtain⟨g,wd,p,wl,ws,wvs,rfl,⟨hwd,hp,hok⟩,hwl,haw,hws,hl,hq⟩:=h
  refine⟨_,(j03 (j0c (j0f j0y (j0o (j00 (j0f j0y (j0f j0y (pv 0) j06) (j09 (j1x T) (hr.mono (by decide)) (by rfl) T.m_z53 T.F_z53.kp T.b_z53 .nil j0i (j00 (pv 1) j01))) j01)) (j1r (["_law_wish_here"]:List Str) ([]:List Str) [] rfl ⟨rfl,by decide +kernel,by decide +kernel,by rfl,trivial⟩ (j5c (pv 2)) (fun _ _ _ _=>⟨(j0p (i:=0) (by show ((["_law_wish_here"]:List Str)++([]:List Str)).Nodup;decide +kernel) rfl (by first | exact Or.inl rfl | exact Or.inr rfl)),(show PTs _ [] [] from trivial),(j0f j0y j06 (j09 (j1x T) (hr.mono (by decide)) (by rfl) T.m_z53 T.F_z53.kp T.b_z53 .nil j0i (j00 (pv 0) j01)))⟩))))),?_⟩
  obtain⟨cl,c1,c8⟩:=G83.cl hok
  have lw:=haw.len
  have wdl:=j22 (G83.nmw g)
  have jl:∀ xs:List V,(∀ x∈xs,ClV x)→xs.length≤8→(Str.join ⟨#[32]⟩ (xs.map txV)).length≤168:=fun xs hx h8=>by
   have:=j2w 32 (k:=20) (zs:=xs.map txV) fun z hz=>by
    obtain⟨v,h1,rfl⟩:=List.mem_map.mp hz
    exact (hx v h1).sg.2.2
   rw[List.length_map] at this
   omega
  have jn:∀ (k:Str) (xs:List V),1≤xs.length→k++(⟨#[32]⟩:Str)++Str.join ⟨#[32]⟩ (xs.map txV)=Str.join ⟨#[32]⟩ (k :: xs.map txV):=fun k xs h=>by
   cases xs with
   | nil=>simp at h
   | cons x r=>rfl
  have j1:=jl g.tup cl c8
  have apl:∀ (x y:Str),(x++y).length=x.length+y.length:=Str.length_append
  walk_at "v"
  rw[show Str.ofString " "=(⟨#[32]⟩:Str) by decide]
  refine j0v (by rw[hwd];show _+1≤_;omega) ?_
  walk_at "v"
  refine⟨_,rfl,.inl ⟨p,g.tup,rfl,hp,cl,c8,fun H1 e1=>?_⟩⟩
  walk_at "v"
  refine j0v (by rw[apl,hwd];show _+1+_≤_;omega) ?_
  rw[jn _ _ c1,hwd]
  walk_at "v"
  intro l2 H2 n2 q2 e2
  have x2:=e1.tr e2
  walk_at "v"
  refine⟨wl,rfl,⟨_,SqL.of (x2 _ _ hwl)⟩,fun acc hn _ _ _ _=>j7p (SqL.of (x2 _ _ hwl)) (by omega) hn (fun i ys _=>ys=((ws.take i).map lnW).map V.str) (by simp) (fun _ _ _ _ _ h=>h) (fun i ys H' _ h=>by rw[h];simp;omega) ?_ ?_⟩
  ·intro i x ys H3 hx e h Y N hY hN
   have hi:i < ws.length:=by rw[← lw];exact (List.getElem?_eq_some_iff.mp hx).1
   obtain⟨v,hv1,hv2⟩:=AllW.get (haw.mono fun _ _ zz=>(x2.tr e) _ _ zz) (List.getElem?_eq_getElem hi)
   rw[hx] at hv1
   cases hv1
   have et:((ws.take (i+1)).map lnW).map V.str=ys++[.str (lnW ws[i])]:=by
    rw[show ws.take (i+1)=ws.take i++[ws[i]] by rw[List.take_succ,List.getElem?_eq_getElem hi];rfl,List.map_append,List.map_append,h]
    rfl
   obtain⟨wc,w1,w8⟩:=j2b hok (hws _ (List.getElem_mem hi))
   have j2:=jl _ wc w8
   have en:askS++(⟨#[32]⟩:Str)++Str.join ⟨#[32]⟩ (ws[i].ps.map txV)=lnW ws[i]:=jn askS _ w1
   rw[← en] at et
   generalize ws[i]=ww at *
   have fin:∀ H4,Ext H3 H4→Y (.str (askS++(⟨#[32]⟩:Str)++Str.join ⟨#[32]⟩ (ww.ps.map txV))) H4:=fun H4 e4=>hY _ _ e4 et.symm
   have ea:Str.ofString "ask "=askS++(⟨#[32]⟩:Str):=by decide
   have al:(askS++(⟨#[32]⟩:Str)).length=4:=by decide
   walk_at "v"
   rw[ea]
   cases ww with
   | l cs =>
    obtain⟨q,rfl,hq2⟩:=hv2
    refine⟨_,rfl,.inl ⟨q,_,rfl,hq2,wc,w8,fun H4 e4=>?_⟩⟩
    walk_at "v"
    refine j0v (by rw[al];exact Nat.le_trans (Nat.add_le_add_left j2 4) (by decide)) ?_
    exact fin H4 e4
   | i z =>
    obtain rfl:x=.int z:=hv2
    refine⟨_,rfl,.inr ⟨wc _ List.mem_cons_self,?_⟩⟩
    walk_at "v"
    refine j0v (by rw[al];exact Nat.le_trans (Nat.add_le_add_left j2 4) (by decide)) ?_
    exact fin H3 Ext.rfl'
   | s z =>
    obtain rfl:x=.str z:=hv2
    refine⟨_,rfl,.inr ⟨wc _ List.mem_cons_self,?_⟩⟩
    walk_at "v"
    refine j0v (by rw[al];exact Nat.le_trans (Nat.add_le_add_left j2 4) (by decide)) ?_
    exact fin H3 Ext.rfl'
  ·intro ys H3 e3 q3 h
   rw[lw,List.take_length] at h
   subst h
   walk_at "v"
   refine j0r (e3 _ _ q2) q3 (by simp;omega) fun l4 H4 n4 q4 e4=>?_
   exact hq l4 H4 ((x2.tr e3).free n4) q4 ((x2.tr e3).tr e4)
theorem at4p {x y z u lo hi:Int} (n:Int) (h:lo≤x∧x≤hi) (h2:lo≤y∧y≤hi) (h3:lo≤z∧z≤hi) (h4:lo≤u∧u≤hi):∃ m:Int,atI [V.int x,V.int y,V.int z,V.int u] (n % 4)=some (.int m)∧lo≤m∧m≤hi:=by
 have h0:n % 4=0∨n % 4=1∨n % 4=2∨n % 4=3:=by omega
 rcases h0 with e | e | e | e <;> rw[e]
 ·exact⟨x,rfl,h⟩
 ·exact⟨y,rfl,h2⟩
 ·exact⟨z,rfl,h3⟩
 ·exact⟨u,rfl,h4⟩
def j67:Sp:=fun vs H Q _=>∃ c k,vs=[.int c,.int k]∧0≤k∧k≤1000000∧ib c≤1048577∧∀ n H',0≤n→n≤1000000000000000000→Ext H H'→Q (.int n) H'
theorem j16 (T:Txt w K mg a):FnOk P w K mg base (CXU P w) 2 a.f_z36 a.d_z36 ["_law_cell_here","_law_k"] (j67):=by
 refine T.F_z36.okU jhq (fun vs H Q E h=>?_) (fun cdv A outer s H vs Q E hr h=>?_)
 ·obtain⟨c,k,rfl,k0,k1,hb,hq⟩:=h
  rfl
 ·obtain⟨c,k,rfl,k0,k1,hb,hq⟩:=h
  refine⟨_,(j02 (j0l (i:=2) jhq.nd rfl (by first | exact Or.inl rfl | exact Or.inr rfl) (j09 (j15 T) (hr.mono (by decide)) (by rfl) T.m_z48 T.F_z48.kp T.b_z48 .nil j0i (j00 (pv 0) (j00 (pv 1) j01))))
   (j02 (j12 (j0h jfq (j0f j0u (pv 2) j05) j05 (j0j _)) (j03 (j0c (j0f j0u (j0f j0x (pv 2) j05) j05))) j0d)
   (j02 (j12 (j0h (oEq hr) (j0f j0u (pv 2) j05) j05 (j0j _)) (j03 (j0c (j1h oIx (j0o (j00 (j0f j87 j05 j05) (j00 (j0f jdr (j0f j87 j05 j05) j05) (j00 j05 (j00 j05 j01))))) (j0f j0u (j0f j0x (pv 2) j05) j05) (fun _ _=>rfl)))) j0d)
   (j03 (j0c (j0f j0u (j0f j8i (j0f j0y (pv 0) (pv 2)) (j0f j87 j05 j05)) (j0f j0y (j0f j87 j05 j05) j05))))))),?_⟩
  walk_at "v"
  refine⟨c,k,rfl,k0,k1,fun n n0 n1=>?_⟩
  walk_at "v"
  refine iteD (fun h=>?_) (fun h=>?_)
  ·walk_at "v"
   exact hq _ _ (by omega) (by omega) Ext.rfl'
  ·walk_at "v"
   refine iteD (fun h=>?_) (fun h=>?_)
   ·walk_at "v"
    intro l H1 nl q1 e1
    walk_at "v"
    obtain⟨m,hm,m0,m1⟩:=at4p (lo:=0) (hi:=1000000000000000000) (x:=1000000000000000000) (y:=1000000000000000000-1) (z:=0) (u:=1) (n / 4) (by omega) (by omega) (by omega) (by omega)
    refine j26 q1 hm ?_
    walk_at "v"
    exact hq _ _ m0 m1 e1
   ·walk_at "v"
    refine jd7 (mulM hb n0 n1) ?_
    walk_at "v"
    exact hq _ _ (by omega) (by omega) Ext.rfl'
def stm (q:Nat):Str:=match q with | 0=>Str.ofString "abcdefgh" | 1=>Str.ofString "stopstop" | 2=>Str.ofString "zyxwvuts" | _=>Str.ofString "aaaaaaaa"
theorem stm_8:∀ q:Nat,q < 4→(stm q).length=8:=by decide +kernel
theorem jif:∀ q:Nat,q < 4→∀ l:Nat,l < 8→(outS (stm q) none (some ((1+l:Nat):Int))).length=1+l:=by decide +kernel
theorem stm_ok:∀ q:Nat,q < 4→∀ l:Nat,l < 8→∀ k:Nat,k < 1+l→(outS (outS (stm q) none (some ((1+l:Nat):Int))) none (some (k:Int))).length+(outS (outS (stm q) none (some ((1+l:Nat):Int))) (some ((k:Int)+1)) none).length+1≤8∧(outS (outS (stm q) none (some ((1+l:Nat):Int))) none (some (k:Int))).cps.toList.all nmL=true∧(outS (outS (stm q) none (some ((1+l:Nat):Int))) (some ((k:Int)+1)) none).cps.toList.all nmL=true:=by decide +kernel
theorem stm_at (n:Int):∃ q:Nat,q < 4∧atI [V.str (Str.ofString "abcdefgh"),V.str (Str.ofString "stopstop"),V.str (Str.ofString "zyxwvuts"),V.str (Str.ofString "aaaaaaaa")] (n % 4)=some (.str (stm q)):=by
 have h0:n % 4=0∨n % 4=1∨n % 4=2∨n % 4=3:=by omega
 rcases h0 with e | e | e | e <;> rw[e]
 ·exact⟨0,by decide,rfl⟩
 ·exact⟨1,by decide,rfl⟩
 ·exact⟨2,by decide,rfl⟩
 ·exact⟨3,by decide,rfl⟩
theorem jck:(Str.ofString "abcdefghijklmnopqrstuvwxyz").length=26:=by decide
theorem jf9 {i:Int} (h0:0≤i) (h1:i < 26):atI (Str.ofString "abcdefghijklmnopqrstuvwxyz").cps.toList i=some (97+i.toNat):=by
 have e:(Str.ofString "abcdefghijklmnopqrstuvwxyz").cps.toList=(List.range 26).map (97+·):=by decide
 rw[e]
 refine j18 h0 ?_
 rw[List.getElem?_map,List.getElem?_range (by omega)]
 rfl
theorem jm1 (a b:Str):(a++b).cps.toList=a.cps.toList++b.cps.toList:=by
 show (a.cps++b.cps).toList=_
 simp
def nm83 (x y:Str) (c j:Nat):Str:=x++(⟨#[97+(c+3 * j) % 26]⟩:Str)++y
theorem jcl (x y:Str) (c j:Nat):(nm83 x y c j).cps.toList=x.cps.toList++[97+(c+3 * j) % 26]++y.cps.toList:=by
 unfold nm83
 rw[jm1,jm1]
theorem nm83_n {x y:Str}{c j:Nat} (hl:x.length+y.length+1≤8) (hx:x.cps.toList.all nmL=true) (hy:y.cps.toList.all nmL=true):nmS (nm83 x y c j)=true:=by
 have l:(nm83 x y c j).length=x.length+1+y.length:=by
  show (nm83 x y c j).cps.size=_
  rw[← Array.length_toList,jcl]
  simp
  show x.cps.size+(y.cps.size+1)=x.cps.size+1+y.cps.size
  omega
 unfold nmS
 rw[l,jcl,decide_eq_true (show 1≤x.length+1+y.length by omega),decide_eq_true (show x.length+1+y.length≤8 by omega),Bool.true_and,Bool.true_and,List.all_append,List.all_append,hx,hy]
 have:nmL (97+(c+3 * j) % 26)=true:=by unfold nmL;rw[decide_eq_true (by omega),decide_eq_true (by omega)];rfl
 simp[this]
theorem jfa {x y:Str}{c i j:Nat} (hi:i < 8) (hj:j < 8) (e:nm83 x y c i=nm83 x y c j):i=j:=by
 have h:(nm83 x y c i).cps.toList=(nm83 x y c j).cps.toList:=congrArg (fun z:Str=>z.cps.toList) e
 rw[jcl,jcl] at h
 have h2:=List.append_cancel_right h
 have h3:=List.append_cancel_left h2
 have h4:97+(c+3 * i) % 26=97+(c+3 * j) % 26:=by simpa using h3
 omega
theorem jdn {x y:Str}{c:Nat}:∀ {m:Nat},m≤8→((List.range m).map (nm83 x y c)).Nodup
 | 0,_=>by simp
 | m+1,h=>by
  rw[List.range_succ,List.map_append,List.nodup_append]
  refine⟨jdn (by omega),by simp,fun a ha b hb e=>?_⟩
  obtain⟨i,hi,rfl⟩:=List.mem_map.mp ha
  have hb':b=nm83 x y c m:=by simpa using hb
  rw[hb'] at e
  have:=jfa (by have:=List.mem_range.mp hi;omega) (by omega) e
  have:=List.mem_range.mp hi
  omega
def j75:Sp:=fun vs H Q _=>∃ (n m:Int),vs=[.int n,.int m]∧0≤n∧1≤m∧m≤8∧∀ l (ss:List Str) H',H l=none→H' l=some (.lst (ss.map V.str))→Names ss→(ss.length:Int)=m→Ext H H'→Q (.ref l) H'
theorem j3u (T:Txt w K mg a):FnOk P w K mg base (CXU P w) 1 a.f_z49 a.d_z49 ["_law_number","_law_many"] (j75):=by
 refine T.F_z49.okU j8l (fun vs H Q E h=>?_) (fun cdv A outer s H vs Q E hr h=>?_)
 ·obtain⟨n,m,rfl,n0,m1,m8,hq⟩:=h
  rfl
 ·obtain⟨n,m,rfl,n0,m1,m8,hq⟩:=h
  refine⟨_,(j02 (j0l (i:=2) j8l.nd rfl (by first | exact Or.inl rfl | exact Or.inr rfl) (j1f j68 (j1h oIx (j0o (j00 j06 (j00 j06 (j00 j06 (j00 j06 j01))))) (j0f j0u (pv 0) j05) (fun _ _=>rfl)) j21 (j1m (j0f j0y j05 (j0f j0u (j0f j0x (pv 0) j05) j05)))))
   (j02 (j0l (i:=3) j8l.nd rfl (by first | exact Or.inl rfl | exact Or.inr rfl) (j0f j0u (j0f j0x (pv 0) j05) (j08 j24 (by rfl) T.n_len PySem.boot_len (j00 (pv 2) j01))))
   (j02 (j0l (i:=4) j8l.nd rfl (by first | exact Or.inl rfl | exact Or.inr rfl) (j0o j01))
   (j02 (j86 PassesOwn.never rfl (j1u rfl T.n_range (j00 (pv 1) j01)) (j0p (i:=5) j8l.nd rfl (by first | exact Or.inl rfl | exact Or.inr rfl)) (j02 (j0l (i:=6) j8l.nd rfl (by first | exact Or.inl rfl | exact Or.inr rfl) (j1h oIx j06 (j0f j0u (j0f j0y (j0f j0x (pv 0) j05) (j0f j8i j05 (pv 5))) j05) (fun _ _=>rfl)))
   (j03 (j2i (jjc PySem.F.plainAttrs_list PySem.F.slot_list_append PySem.F.type_list_append j39 (pv 4) (j00 (j0f j0y (j0f j0y (j1f j68 (pv 2) j21 (j1m (pv 3))) (pv 6)) (j1f j68 (pv 2) (j1m (j0f j0y (pv 3) j05)) j21)) j01))))))
   (j03 (j0c (pv 4))))))),?_⟩
  obtain⟨q,q4,hq4⟩:=stm_at n
  obtain⟨l,el,l8⟩:∃ l:Nat,n / 4 % 8=l∧l < 8:=⟨(n / 4 % 8).toNat,by omega,by omega⟩
  have s8:=stm_8 q q4
  have sl:=jif q q4 l l8
  have sk:=stm_ok q q4 l l8
  walk_at "v"
  intro l1 H1 nl1 q1 e1
  walk_at "v"
  refine j26 q1 hq4 ?_
  walk_at "v"
  rw[el,show (1:Int)+(l:Nat)=((1+l:Nat):Int) by omega]
  refine jhd (by omega) ?_
  generalize outS (stm q) none (some ((1+l:Nat):Int))=z at *
  walk_at "v"
  refine ja3 (by omega) ?_
  rw[sl]
  have b0:=Int.emod_nonneg (n / 32) (show ((1+l:Nat):Int)≠0 by omega)
  have b1:=Int.emod_lt_of_pos (n / 32) (show (0:Int) < ((1+l:Nat):Int) by omega)
  obtain⟨k,ek,k1⟩:∃ k:Nat,n / 32 % ((1+l:Nat):Int)=k∧k < 1+l:=⟨(n / 32 % ((1+l:Nat):Int)).toNat,by omega,by omega⟩
  obtain⟨ok1,ok2,ok3⟩:=sk k k1
  obtain⟨c0,ec⟩:∃ c0:Nat,n / 256=c0:=⟨(n / 256).toNat,by omega⟩
  walk_at "v"
  rw[ek]
  intro l2 H2 n2 q2 e2
  walk_at "v"
  refine⟨_,rfl,by omega,by omega,j7b (fun i σ H3=>(∃ u1 u2,σ=[some (.int n),some (.int m),some (.str z),some (.int (k:Nat)),some (.ref l2),u1,u2])∧Ext H H3∧H3 l2=some (.lst (((List.range i).map (nm83 (outS z none (some (k:Int))) (outS z (some ((k:Int)+1)) none) c0)).map V.str))) ⟨⟨none,none,rfl⟩,e1.tr e2,q2⟩ ?_ ?_⟩
  ·rintro i σ H3 hi ⟨⟨u1,u2,rfl⟩,x3,q3⟩
   rw[show ((0:Int)+(i:Nat))=(i:Nat) by omega]
   walk_at "v"
   rw[ec]
   refine jh6 (by rw[jck];omega) (jf9 (i:=((c0:Int)+3 * (i:Int)) % 26) (by omega) (by omega)) ?_
   rw[show 97+(((c0:Int)+3 * (i:Int)) % 26).toNat=97+(c0+3 * i) % 26 by omega]
   walk_at "v"
   refine jhd (by omega) ?_
   walk_at "v"
   refine j0v (by show _+1≤_;omega) ?_
   walk_at "v"
   refine jhd (by omega) ?_
   walk_at "v"
   refine j0v (by
    have:(outS z none (some (k:Int))++(⟨#[97+(c0+3 * i) % 26]⟩:Str)).length=(outS z none (some (k:Int))).length+1:=by
     show (outS z none (some (k:Int))++(⟨#[97+(c0+3 * i) % 26]⟩:Str)).cps.size=_
     rw[← Array.length_toList,jm1]
     simp
     rfl
    omega) ?_
   walk_at "v"
   refine j6l q3 (by simp;omega) fun H4 q4' b4=>?_
   refine⟨⟨_,_,rfl⟩,Ext.but x3 b4 (e1.free n2),?_⟩
   rw[List.range_succ,List.map_append,List.map_append]
   exact q4'
  ·rintro σ H3 ⟨⟨u1,u2,rfl⟩,x3,q3⟩
   walk_at "v"
   refine hq l2 _ H3 (e1.free n2) q3 ⟨fun s hs=>?_,jdn (by omega),by simp;omega,by simp;omega⟩ (by simp;omega) x3
   obtain⟨j,_,rfl⟩:=List.mem_map.mp hs
   exact nm83_n ok1 ok2 ok3
def j76:Sp:=fun vs H Q _=>∃ c k,vs=[.int c,.int k]∧0≤k∧k≤999990∧ib c≤1048577∧∀ n H',-1000000000000000000≤n→n≤1000000000000000000→Ext H H'→Q (.int n) H'
theorem j3v (T:Txt w K mg a):FnOk P w K mg base (CXU P w) 3 a.f_z50 a.d_z50 ["_law_cell_here","_law_k"] (j76):=by
 refine T.F_z50.okU sc_z50 (fun vs H Q E h=>?_) (fun cdv A outer s H vs Q E hr h=>?_)
 ·obtain⟨c,k,rfl,k0,k1,hb,hq⟩:=h
  rfl
 ·obtain⟨c,k,rfl,k0,k1,hb,hq⟩:=h
  refine⟨_,(j03 (j0c (j0f j8i (j09 (j16 T) (hr.mono (by decide)) (by rfl) T.m_z36 T.F_z36.kp T.b_z36 .nil j0i (j00 (pv 0) (j00 (pv 1) j01))) (j0f jdr j05 (j0f j8i j05 (j0f j0u (j0f j0x (j09 (j15 T) (hr.mono (by decide)) (by rfl) T.m_z48 T.F_z48.kp T.b_z48 .nil j0i (j00 (pv 0) (j00 (j0f j0y (pv 1) j05) j01))) j05) j05)))))),?_⟩
  walk_at "v"
  refine⟨c,k,rfl,k0,by omega,hb,fun n H1 n0 n1 e1=>?_⟩
  walk_at "v"
  refine⟨c,_,rfl,by omega,by omega,fun m m0 m1=>?_⟩
  walk_at "v"
  have h2:m / 8 % 2=0∨m / 8 % 2=1:=by omega
  refine hq _ H1 ?_ ?_ e1 <;> (rcases h2 with e | e <;> rw[e] <;> omega)
def j8s:Sp:=fun vs H Q _=>∃ (g:G83) (wd:Str) (p:Addr) (c k:Int),vs=[.str wd,.ref p,.int c,.int k]∧GAt H g wd p∧ib c≤1048576∧0≤k∧k≤1000∧∀ v (ww:W83) H',ww.at_ H' v→g.rs.okW ww→Ext H H'→Q v H'
theorem j8t (T:Txt w K mg a):FnOk P w K mg base (CXU P w) 4 a.f_z58 a.d_z58 ["_law_word","_law_start_here","_law_cell_here","_law_k"] (j8s):=by
 refine T.F_z58.okU jhp (fun vs H Q E h=>?_) (fun cdv A outer s H vs Q E hr h=>?_)
 ·obtain⟨g,wd,p,c,k,rfl,⟨hwd,hp,hok⟩,hc,k0,k1,hq⟩:=h
  rfl
 ·obtain⟨g,wd,p,c,k,rfl,⟨hwd,hp,hok⟩,hc,k0,k1,hq⟩:=h
  refine⟨_,(j02 (j0l (i:=4) jhp.nd rfl (by first | exact Or.inl rfl | exact Or.inr rfl) (j09 (j15 T) (hr.mono (by decide)) (by rfl) T.m_z48 T.F_z48.kp T.b_z48 .nil j0i (j00 (pv 2) (j00 (pv 3) j01))))
   (j02 (j12 (j0h (oEq hr) (pv 0) j06 (j0j _)) (j03 (j0c (j1h oIx (j0o (j00 (j1h oIx (pv 1) (j0f j0u (j0f j0x (pv 4) j05) (j08 j24 (by rfl) T.n_len PySem.boot_len (j00 (pv 1) j01))) (fun _ _=>rfl)) (j00 (j09 (j3v T) (hr.mono (by decide)) (by rfl) T.m_z50 T.F_z50.kp T.b_z50 .nil j0i (j00 (pv 2) (j00 (j0f j0y (pv 3) j05) j01))) j01))) (j0f j0u (pv 4) j05) (fun _ _=>rfl)))) j0d)
   (j02 (j12 (j0h (oEq hr) (pv 0) j06 (j0j _)) (j03 (j0c (j1h oIx (pv 1) (j0f j0u (pv 4) (j08 j24 (by rfl) T.n_len PySem.boot_len (j00 (pv 1) j01))) (fun _ _=>rfl)))) j0d)
   (j02 (j12 (j0h (oEq hr) (pv 0) j06 (j0j _)) (j03 (j0c (j1h oIx (j0f j0y (j0n jea (by rfl) T.n_list PyProof.Rows.boot_list (j00 (pv 1) j01)) (j09 (j3u T) (hr.mono (by decide)) (by rfl) T.m_z49 T.F_z49.kp T.b_z49 .nil j0i (j00 (j0f j0x (pv 4) j05) (j00 j05 j01)))) (j0f j0u (pv 4) (j0f j0y (j08 j24 (by rfl) T.n_len PySem.boot_len (j00 (pv 1) j01)) j05)) (fun _ _=>rfl)))) j0d)
   (j02 (j12 (j0h (oEq hr) (pv 0) j06 (j0j _)) (j03 (j0c (j09 (j16 T) (hr.mono (by decide)) (by rfl) T.m_z36 T.F_z36.kp T.b_z36 .nil j0i (j00 (pv 2) (j00 (j0f j0y (pv 3) j05) j01))))) j0d)
   (j02 (j12 (j0h (oEq hr) (pv 0) j06 (j0j _)) (j03 (j0c (j0n j9g (by rfl) T.n_tuple PyProof.Rows.boot_tuple (j00 (j1r (["_law_j"]:List Str) (["_law_cell_here","_law_k"]:List Str) [2,3] rfl ⟨rfl,by decide +kernel,by decide +kernel,by rfl,⟨⟨rfl,by first | exact Or.inl rfl | exact Or.inr rfl,by first | exact Or.inl rfl | exact Or.inr rfl⟩,⟨rfl,by first | exact Or.inl rfl | exact Or.inr rfl,by first | exact Or.inl rfl | exact Or.inr rfl⟩,trivial⟩⟩ (j1u rfl T.n_range (j00 (j1h oIx (pv 1) j05 (fun _ _=>rfl)) j01)) (fun _ _ _ _=>⟨(j0p (i:=0) (by show ((["_law_j"]:List Str)++(["_law_cell_here","_law_k"]:List Str)).Nodup;decide +kernel) rfl (by first | exact Or.inl rfl | exact Or.inr rfl)),(show PTs _ [] [] from trivial),(j09 (j16 T) (hr.mono (by decide)) (by rfl) T.m_z36 T.F_z36.kp T.b_z36 .nil j0i (j00 (pv 1) (j00 (j0f j0y (j0f j0y (j0f j8i j05 (pv 2)) j05) (pv 0)) j01)))⟩)) j01)))) j0d)
   (j03 (j0c (j0f j0y j05 (j0f j0u (j09 (j16 T) (hr.mono (by decide)) (by rfl) T.m_z36 T.F_z36.kp T.b_z36 .nil j0i (j00 (pv 2) (j00 (j0f j0y (pv 3) j05) j01))) (j1h oIx (pv 1) j05 (fun _ _=>rfl)))))))))))),?_⟩
  have hc1:=Nat.le_succ_of_le hc
  walk_at "v"
  refine⟨_,_,rfl,by omega,by omega,fun n n0 n1=>?_⟩
  cases g with
  | line ns =>
   have hwd:wd=Str.ofString "line":=hwd
   walk_at "v"
   refine j0b ?_
   rw[show decide (wd=Str.ofString "line")=true by rw[hwd];decide]
   walk_at "v"
   have hp:H p=some (.tup (ns.map V.int)):=hp
   have lo:=hok.lo
   refine j0m hp ?_
   rw[List.length_map]
   have c0:=Int.emod_nonneg (n / 2) (show (ns.length:Int)≠0 by omega)
   have c1:=Int.emod_lt_of_pos (n / 2) (show (0:Int) < ns.length by omega)
   walk_at "v"
   refine j11 hp (j9r c0 c1) ?_
   walk_at "v"
   refine⟨c,_,rfl,by omega,by omega,hc1,fun z H1 z0 z1 e1=>?_⟩
   walk_at "v"
   intro l2 H2 n2 q2 e2
   walk_at "v"
   have hb:=hok.pl (ns.getD (n / 2 % (ns.length:Int)).toNat 0) (by rw[List.getD_eq_getElem?_getD,List.getElem?_eq_getElem (show (n / 2 % (ns.length:Int)).toNat < ns.length by omega)];exact List.getElem_mem _)
   have h2:n % 2=0∨n % 2=1:=by omega
   rcases h2 with e | e
   ·refine j26 q2 (v:=.int (ns.getD (n / 2 % (ns.length:Int)).toNat 0)) (by rw[e];rfl) ?_
    walk_at "v"
    exact hq _ (.i _) H2 rfl ⟨_,rfl,hb⟩ (e1.tr e2)
   ·refine j26 q2 (v:=.int z) (by rw[e];rfl) ?_
    walk_at "v"
    exact hq _ (.i _) H2 rfl ⟨_,rfl,z0,z1⟩ (e1.tr e2)
  | shelf ss =>
   have hwd:wd=Str.ofString "shelf":=hwd
   walk_at "v"
   refine j0b ?_
   rw[show decide (wd=Str.ofString "line")=false by rw[hwd];decide]
   walk_at "v"
   refine j0b ?_
   rw[show decide (wd=Str.ofString "shelf")=true by rw[hwd];decide]
   walk_at "v"
   have hp:H p=some (.tup (ss.map V.str)):=hp
   have lo:=hok.lo
   refine j0m hp ?_
   rw[List.length_map]
   have c0:=Int.emod_nonneg n (show (ss.length:Int)≠0 by omega)
   have c1:=Int.emod_lt_of_pos n (show (0:Int) < ss.length by omega)
   walk_at "v"
   refine j11 hp (jab c0 c1) ?_
   walk_at "v"
   exact hq _ (.s _) H rfl ⟨_,rfl,by rw[List.getD_eq_getElem?_getD,List.getElem?_eq_getElem (show (n % (ss.length:Int)).toNat < ss.length by omega)];exact List.getElem_mem _⟩ Ext.rfl'
  | hire W =>
   have hwd:wd=Str.ofString "hire":=hwd
   walk_at "v"
   refine j0b ?_
   rw[show decide (wd=Str.ofString "line")=false by rw[hwd];decide]
   walk_at "v"
   refine j0b ?_
   rw[show decide (wd=Str.ofString "shelf")=false by rw[hwd];decide]
   walk_at "v"
   refine j0b ?_
   rw[show decide (wd=Str.ofString "store")=false by rw[hwd];decide]
   walk_at "v"
   refine j0b ?_
   rw[show decide (wd=Str.ofString "hire")=true by rw[hwd];decide]
   walk_at "v"
   refine⟨c,_,rfl,by omega,by omega,hc1,fun z H1 z0 z1 e1=>?_⟩
   exact hq _ (.i z) H1 rfl ⟨_,rfl,z0,z1⟩ e1
  | ways n' t h =>
   have hwd:wd=Str.ofString "ways":=hwd
   walk_at "v"
   refine j0b ?_
   rw[show decide (wd=Str.ofString "line")=false by rw[hwd];decide]
   walk_at "v"
   refine j0b ?_
   rw[show decide (wd=Str.ofString "shelf")=false by rw[hwd];decide]
   walk_at "v"
   refine j0b ?_
   rw[show decide (wd=Str.ofString "store")=false by rw[hwd];decide]
   walk_at "v"
   refine j0b ?_
   rw[show decide (wd=Str.ofString "hire")=false by rw[hwd];decide]
   walk_at "v"
   refine j0b ?_
   rw[show decide (wd=Str.ofString "ways")=true by rw[hwd];decide]
   walk_at "v"
   obtain⟨n1',n8,h0,h1,t0,t1⟩:=hok
   refine j11 hp rfl ?_
   walk_at "v"
   refine⟨_,rfl,by omega,by omega,fun acc hn _ _ _ _=>j5m (fun x=>0≤x∧x≤1000000000000000000) (by omega) hn (fun i H3 Y hi e hY=>?_) fun xs H2 lx hx e2 ha=>?_⟩
   ·walk_at "v"
    exact⟨c,_,rfl,by omega,by omega,hc1,fun z H4 z0 z1 e4=>hY _ _ ⟨z0,z1⟩ e4⟩
   walk_at "v"
   refine j2u ha fun t4 H4 n4 q4 e4=>?_
   exact hq _ (.l xs) H4 ⟨t4,rfl,q4⟩ ⟨xs,rfl,by omega,hx⟩ (e2.tr e4)
  | store ss =>
   have hwd:wd=Str.ofString "store":=hwd
   walk_at "v"
   refine j0b ?_
   rw[show decide (wd=Str.ofString "line")=false by rw[hwd];decide]
   walk_at "v"
   refine j0b ?_
   rw[show decide (wd=Str.ofString "shelf")=false by rw[hwd];decide]
   walk_at "v"
   refine j0b ?_
   rw[show decide (wd=Str.ofString "store")=true by rw[hwd];decide]
   walk_at "v"
   have hp:H p=some (.tup (ss.map V.str)):=hp
   have lo:=hok.lo
   have hi8:=hok.hi
   refine j33 hp fun l1 H1 nl1 q1 e1=>?_
   walk_at "v"
   refine⟨_,8,rfl,by omega,by omega,by omega,fun l2 qs H2 n2 q2 hN hl e2=>?_⟩
   walk_at "v"
   refine j0r (e2 _ _ q1) q2 (by simp;omega) fun l3 H3 n3 q3 e3=>?_
   rw[show ss.map V.str++qs.map V.str=(ss++qs).map V.str by simp] at q3
   walk_at "v"
   refine j0m ((e1.tr (e2.tr e3)) _ _ hp) ?_
   rw[List.length_map]
   have c0:=Int.emod_nonneg n (show (ss.length:Int)+8≠0 by omega)
   have c1:=Int.emod_lt_of_pos n (show (0:Int) < (ss.length:Int)+8 by omega)
   have la:(ss++qs).length=ss.length+8:=by rw[List.length_append];omega
   walk_at "v"
   refine j26 q3 (jab c0 (by rw[la];omega)) ?_
   walk_at "v"
   refine hq _ (.s _) H3 rfl ⟨_,rfl,?_⟩ (e1.tr (e2.tr e3))
   have hm:(ss++qs).getD (n % ((ss.length:Int)+8)).toNat ⟨#[]⟩∈ss++qs:=by rw[List.getD_eq_getElem?_getD,List.getElem?_eq_getElem (show (n % ((ss.length:Int)+8)).toNat < (ss++qs).length by omega)];exact List.getElem_mem _
   exact (List.mem_append.mp hm).elim (fun z=>hok.nm _ z) fun z=>hN.nm _ z
  | bags R =>
   have hwd:wd=Str.ofString "bags":=hwd
   walk_at "v"
   refine j0b ?_
   rw[show decide (wd=Str.ofString "line")=false by rw[hwd];decide]
   walk_at "v"
   refine j0b ?_
   rw[show decide (wd=Str.ofString "shelf")=false by rw[hwd];decide]
   walk_at "v"
   refine j0b ?_
   rw[show decide (wd=Str.ofString "store")=false by rw[hwd];decide]
   walk_at "v"
   refine j0b ?_
   rw[show decide (wd=Str.ofString "hire")=false by rw[hwd];decide]
   walk_at "v"
   refine j0b ?_
   rw[show decide (wd=Str.ofString "ways")=false by rw[hwd];decide]
   walk_at "v"
   obtain⟨r1,r2⟩:=hok
   refine⟨c,_,rfl,by omega,by omega,hc1,fun z H1 z0 z1 e1=>?_⟩
   walk_at "v"
   refine j11 (e1 _ _ hp) rfl ?_
   have c0:=Int.emod_nonneg z (show R≠0 by omega)
   have c1:=Int.emod_lt_of_pos z (show (0:Int) < R by omega)
   walk_at "v"
   exact hq _ (.i _) H1 rfl ⟨_,rfl,by omega,by omega⟩ e1
def j77 (K:PySem.W.Frag):Sp:=fun vs H Q _=>∃ (p:Addr) (cs:List Int),vs=[.ref p]∧SqL K H p (cs.map V.int)∧(∀ z∈cs,ib z≤1048576)∧∀ t wd q (g:G83) H',H' t=some (.tup [.str wd,.ref q])→GAt H' g wd q→Ext H H'→Q (.ref t) H'
theorem j78 (T:Txt w K mg a):FnOk P w K mg base (CXU P w) 4 a.f_z51 a.d_z51 ["_law_script"] (j77 K):=by
 refine T.F_z51.okU jcd (fun vs H Q E h=>?_) (fun cdv A outer s H vs Q E hr h=>?_)
 ·obtain⟨p,cs,rfl,hS,hb,hq⟩:=h
  rfl
 ·obtain⟨p,cs,rfl,hS,hb,hq⟩:=h
  refine⟨_,(j02 (j0l (i:=1) jcd.nd rfl (by first | exact Or.inl rfl | exact Or.inr rfl) (j09 (j29 T) (hr.mono (by decide)) (by rfl) T.m_z56 T.F_z56.kp T.b_z56 .nil j0i (j00 (pv 0) (j00 j05 j01))))
   (j02 (j0l (i:=2) jcd.nd rfl (by first | exact Or.inl rfl | exact Or.inr rfl) (j09 (j15 T) (hr.mono (by decide)) (by rfl) T.m_z48 T.F_z48.kp T.b_z48 .nil j0i (j00 (pv 1) (j00 j05 j01))))
   (j02 (j0l (i:=3) jcd.nd rfl (by first | exact Or.inl rfl | exact Or.inr rfl) (j1h oIx (j0o (j00 j06 (j00 j06 (j00 j06 (j00 j06 (j00 j06 (j00 j06 j01))))))) (j0f j0u (j09 (j15 T) (hr.mono (by decide)) (by rfl) T.m_z48 T.F_z48.kp T.b_z48 .nil j0i (j00 (j09 (j29 T) (hr.mono (by decide)) (by rfl) T.m_z56 T.F_z56.kp T.b_z56 .nil j0i (j00 (pv 0) (j00 j05 j01))) (j00 j05 j01))) j05) (fun _ _=>rfl)))
   (j02 (j12 (j0h (oEq hr) (pv 3) j06 (j0j _)) (j03 (j0c (j2e (j00 (pv 3) (j00 (j0n j9g (by rfl) T.n_tuple PyProof.Rows.boot_tuple (j00 (j08 j6o (by rfl) T.n_sorted PyProof.Rows.boot_sorted (j00 (j1r (["_law_j"]:List Str) (["_law_cell_here"]:List Str) [1] rfl ⟨rfl,by decide +kernel,by decide +kernel,by rfl,⟨⟨rfl,by first | exact Or.inl rfl | exact Or.inr rfl,by first | exact Or.inl rfl | exact Or.inr rfl⟩,trivial⟩⟩ (j1u rfl T.n_range (j00 (j0f j0y j05 (j0f j0u (pv 2) j05)) j01)) (fun _ _ _ _=>⟨(j0p (i:=0) (by show ((["_law_j"]:List Str)++(["_law_cell_here"]:List Str)).Nodup;decide +kernel) rfl (by first | exact Or.inl rfl | exact Or.inr rfl)),(show PTs _ [] [] from trivial),(j09 (j3v T) (hr.mono (by decide)) (by rfl) T.m_z50 T.F_z50.kp T.b_z50 .nil j0i (j00 (pv 1) (j00 (j0f j0y j05 (pv 0)) j01)))⟩)) j01)) j01)) j01))))) j0d)
   (j02 (j12 (PW.pt (j58 (j0h (oEq hr) (pv 3) j06 (j0j _)) (j2a (j0h (oEq hr) (pv 3) j06 (j0j _))))) (j03 (j0c (j2e (j00 (pv 3) (j00 (j0n j9g (by rfl) T.n_tuple PyProof.Rows.boot_tuple (j00 (j09 (j3u T) (hr.mono (by decide)) (by rfl) T.m_z49 T.F_z49.kp T.b_z49 .nil j0i (j00 (j0f j0x (pv 2) j05) (j00 (j0f j0y j05 (j0f j0u (pv 2) j05)) j01))) j01)) j01))))) j0d)
   (j02 (j12 (j0h (oEq hr) (pv 3) j06 (j0j _)) (j03 (j0c (j2e (j00 (pv 3) (j00 (j2e (j00 (j0f j0y j05 (j0f j0u (pv 2) j05)) (j00 (j09 (j16 T) (hr.mono (by decide)) (by rfl) T.m_z36 T.F_z36.kp T.b_z36 .nil j0i (j00 (pv 1) (j00 j05 j01))) (j00 (j0f j0u (j0f j0x (pv 2) j05) (j0f j0y j05 (j0f j0u (pv 2) j05))) j01)))) j01))))) j0d)
   (j03 (j0c (j2e (j00 (pv 3) (j00 (j2e (j00 (j08 (cMax2 rfl) (by rfl) T.n_max PyProof.Rows.boot_max (j00 j05 (j00 (j09 (j16 T) (hr.mono (by decide)) (by rfl) T.m_z36 T.F_z36.kp T.b_z36 .nil j0i (j00 (pv 1) (j00 j05 j01))) j01))) j01)) j01))))))))))),?_⟩
  walk_at "v"
  refine⟨p,cs,1,rfl,hS,by decide,hb,fun c hc=>?_⟩
  have hc1:=Nat.le_succ_of_le hc
  walk_at "v"
  refine⟨_,_,rfl,by decide,by decide,fun n n0 n1=>?_⟩
  walk_at "v"
  intro l1 H1 nn1 q1 e1
  walk_at "v"
  refine⟨p,cs,0,rfl,e1.seqL hS,by decide,hb,fun c0 hc0=>?_⟩
  walk_at "v"
  refine⟨_,_,rfl,by decide,by decide,fun u u0 u1=>?_⟩
  walk_at "v"
  have h6:u % 6=0∨u % 6=1∨u % 6=2∨u % 6=3∨u % 6=4∨u % 6=5:=by omega
  rcases h6 with e6 | e6 | e6 | e6 | e6 | e6
  ·obtain⟨wd,hwd⟩:∃ wd,wd=Str.ofString "line":=⟨_,rfl⟩
   refine j26 q1 (v:=.str wd) (by rw[e6,hwd];rfl) ?_
   walk_at "v"
   refine j0b ?_
   rw[show decide (wd=Str.ofString "line")=true by rw[hwd];decide]
   walk_at "v"
   obtain⟨m,em,m1,m6⟩:∃ m:Nat,1+n % 6=m∧1≤m∧m≤6:=⟨(1+n % 6).toNat,by omega,by omega,by omega⟩
   rw[em]
   refine⟨_,rfl,by omega,by omega,fun acc hn _ _ _ _=>j5m (fun x=>-1000000000000000000≤x∧x≤1000000000000000000) (by omega) hn (fun i H3 Y hi e hY=>?_) fun xs H2 lx hx e2 ha=>?_⟩
   ·walk_at "v"
    exact⟨c,_,rfl,by omega,by omega,hc1,fun z H4 z0 z1 e4=>hY _ _ ⟨z0,z1⟩ e4⟩
   walk_at "v"
   refine r_srtL ha (by omega) fun l3 ns H3 n3 pm pw q3 e3=>?_
   walk_at "v"
   refine j2u q3 fun t4 H4 n4 q4 e4=>?_
   walk_at "v"
   intro t5 H5 n5 q5 e5
   have pl:=pm.length_eq
   exact hq t5 wd t4 (.line ns) H5 q5 ⟨hwd,e5 _ _ q4,⟨by omega,by omega,pw,fun y hy=>hx y (pm.mem_iff.mp hy)⟩⟩ (e1.tr (e2.tr (e3.tr (e4.tr e5))))
  ·obtain⟨wd,hwd⟩:∃ wd,wd=Str.ofString "shelf":=⟨_,rfl⟩
   refine j26 q1 (v:=.str wd) (by rw[e6,hwd];rfl) ?_
   walk_at "v"
   refine j0b ?_
   rw[show decide (wd=Str.ofString "line")=false by rw[hwd];decide]
   walk_at "v"
   refine j0b ?_
   rw[show decide (wd=Str.ofString "shelf")=true by rw[hwd];decide]
   walk_at "v"
   refine⟨_,_,rfl,by omega,by omega,by omega,fun l2 ss H2 n2 q2 hN hl e2=>?_⟩
   walk_at "v"
   refine j2u q2 fun t4 H4 n4 q4 e4=>?_
   walk_at "v"
   intro t5 H5 n5 q5 e5
   exact hq t5 wd t4 (.shelf ss) H5 q5 ⟨hwd,e5 _ _ q4,hN⟩ (e1.tr (e2.tr (e4.tr e5)))
  ·obtain⟨wd,hwd⟩:∃ wd,wd=Str.ofString "hire":=⟨_,rfl⟩
   refine j26 q1 (v:=.str wd) (by rw[e6,hwd];rfl) ?_
   walk_at "v"
   refine j0b ?_
   rw[show decide (wd=Str.ofString "line")=false by rw[hwd];decide]
   walk_at "v"
   refine j0b ?_
   rw[show decide (wd=Str.ofString "shelf")=false by rw[hwd];decide]
   walk_at "v"
   refine j0b ?_
   rw[show decide (wd=Str.ofString "store")=false by rw[hwd];decide]
   walk_at "v"
   refine j0b ?_
   rw[show decide (wd=Str.ofString "ways")=false by rw[hwd];decide]
   walk_at "v"
   refine⟨c,3,rfl,by decide,by decide,hc1,fun z H2 z0 z1 e2=>?_⟩
   walk_at "v"
   intro t4 H4 n4 q4 e4
   walk_at "v"
   intro t5 H5 n5 q5 e5
   exact hq t5 wd t4 (.hire (max 1 z)) H5 q5 ⟨hwd,e5 _ _ q4,⟨by omega,by omega⟩⟩ (e1.tr (e2.tr (e4.tr e5)))
  ·obtain⟨wd,hwd⟩:∃ wd,wd=Str.ofString "ways":=⟨_,rfl⟩
   refine j26 q1 (v:=.str wd) (by rw[e6,hwd];rfl) ?_
   walk_at "v"
   refine j0b ?_
   rw[show decide (wd=Str.ofString "line")=false by rw[hwd];decide]
   walk_at "v"
   refine j0b ?_
   rw[show decide (wd=Str.ofString "shelf")=false by rw[hwd];decide]
   walk_at "v"
   refine j0b ?_
   rw[show decide (wd=Str.ofString "store")=false by rw[hwd];decide]
   walk_at "v"
   refine j0b ?_
   rw[show decide (wd=Str.ofString "ways")=true by rw[hwd];decide]
   walk_at "v"
   obtain⟨m,em,m1,m8⟩:∃ m:Nat,1+n % 8=m∧1≤m∧m≤8:=⟨(1+n % 8).toNat,by omega,by omega,by omega⟩
   rw[em]
   refine⟨c,3,rfl,by decide,by decide,hc1,fun z H2 z0 z1 e2=>?_⟩
   have b0:=Int.emod_nonneg (n / 8) (show (m:Int)≠0 by omega)
   have b1:=Int.emod_lt_of_pos (n / 8) (show (0:Int) < m by omega)
   walk_at "v"
   rw[em]
   walk_at "v"
   intro t4 H4 n4 q4 e4
   walk_at "v"
   intro t5 H5 n5 q5 e5
   exact hq t5 wd t4 (.ways m z (n / 8 % (m:Int))) H5 q5 ⟨hwd,e5 _ _ q4,⟨m1,m8,b0,b1,z0,z1⟩⟩ (e1.tr (e2.tr (e4.tr e5)))
  ·obtain⟨wd,hwd⟩:∃ wd,wd=Str.ofString "store":=⟨_,rfl⟩
   refine j26 q1 (v:=.str wd) (by rw[e6,hwd];rfl) ?_
   walk_at "v"
   refine j0b ?_
   rw[show decide (wd=Str.ofString "line")=false by rw[hwd];decide]
   walk_at "v"
   refine j0b ?_
   rw[show decide (wd=Str.ofString "shelf")=false by rw[hwd];decide]
   walk_at "v"
   refine j0b ?_
   rw[show decide (wd=Str.ofString "store")=true by rw[hwd];decide]
   walk_at "v"
   refine⟨_,_,rfl,by omega,by omega,by omega,fun l2 ss H2 n2 q2 hN hl e2=>?_⟩
   walk_at "v"
   refine j2u q2 fun t4 H4 n4 q4 e4=>?_
   walk_at "v"
   intro t5 H5 n5 q5 e5
   exact hq t5 wd t4 (.store ss) H5 q5 ⟨hwd,e5 _ _ q4,hN⟩ (e1.tr (e2.tr (e4.tr e5)))
  ·obtain⟨wd,hwd⟩:∃ wd,wd=Str.ofString "bags":=⟨_,rfl⟩
   refine j26 q1 (v:=.str wd) (by rw[e6,hwd];rfl) ?_
   walk_at "v"
   refine j0b ?_
   rw[show decide (wd=Str.ofString "line")=false by rw[hwd];decide]
   walk_at "v"
   refine j0b ?_
   rw[show decide (wd=Str.ofString "shelf")=false by rw[hwd];decide]
   walk_at "v"
   refine j0b ?_
   rw[show decide (wd=Str.ofString "store")=false by rw[hwd];decide]
   walk_at "v"
   refine j0b ?_
   rw[show decide (wd=Str.ofString "ways")=false by rw[hwd];decide]
   walk_at "v"
   refine⟨c,3,rfl,by decide,by decide,hc1,fun z H2 z0 z1 e2=>?_⟩
   walk_at "v"
   intro t4 H4 n4 q4 e4
   walk_at "v"
   intro t5 H5 n5 q5 e5
   exact hq t5 wd t4 (.bags (max 1 z)) H5 q5 ⟨hwd,e5 _ _ q4,⟨by omega,by omega⟩⟩ (e1.tr (e2.tr (e4.tr e5)))
theorem cut82 (cs:List Int):∃ ms:List Int,cutV (cs.map V.int) (some 2) (some 32)=ms.map V.int∧ms.length≤30∧∀ z∈ms,z∈cs:=by
 refine⟨(cs.drop (min 2 cs.length)).take (min 32 cs.length-min 2 cs.length),?_,?_,fun z hz=>List.mem_of_mem_drop (List.mem_of_mem_take hz)⟩
 ·unfold cutV
  rw[show (some (2:Int))=some ((2:Nat):Int) from rfl,show (some (32:Int))=some ((32:Nat):Int) from rfl,HT.sIx_nat,HT.sIx_nat,List.length_map,List.map_take,List.map_drop]
 ·rw[List.length_take]
  omega
def jm3 (wd:Str) (xs:List V):Bool:=(decide (wd=Str.ofString "line") && !opL xs) || ((decide (wd=Str.ofString "shelf") || decide (wd=Str.ofString "store")) && !opN xs) || (decide (wd=Str.ofString "hire") && (match xs with | [x]=>!Nh.okB x | _=>false)) || (decide (wd=Str.ofString "bags") && (match xs with | [x]=>!fot 1000000000000000000 x | _=>false)) || (decide (wd=Str.ofString "ways") && (match xs with | [x,y,z]=>!Nw.okC x y z | _=>false))
theorem jfb {wd:Str}{xs:List V} (h:jm3 wd xs=true):BadS wd xs:=by
 unfold jm3 at h
 simp only[Bool.or_eq_true,Bool.and_eq_true,decide_eq_true_eq,Bool.not_eq_true'] at h
 rcases h with (((⟨h1,h2⟩ | ⟨h1,h2⟩) | ⟨h1,h2⟩) | ⟨h1,h2⟩) | ⟨h1,h2⟩
 ·exact .inl ⟨h1,h2⟩
 ·exact .inr (.inl ⟨h1,h2⟩)
 ·refine .inr (.inr (.inl ⟨h1,?_⟩))
  split at h2
  ·exact⟨_,rfl,by simpa using h2⟩
  ·cases h2
 ·refine .inr (.inr (.inr (.inl ⟨h1,?_⟩)))
  split at h2
  ·exact⟨_,rfl,by simpa using h2⟩
  ·cases h2
 ·refine .inr (.inr (.inr (.inr ⟨h1,?_⟩)))
  split at h2
  ·exact⟨_,_,_,rfl,by simpa using h2⟩
  ·cases h2
def jm4 (wd:Str) (xs:List V):Bool:=!inV (.str wd) ((["line","shelf","hire","ways","store","bags"]:List Str).map V.str) || (match valS [("hire",1),("ways",3),("bags",1)] wd with | some (.int k)=>!decide ((xs.length:Int)=k) | _=>false) || jm3 wd xs
theorem jfc {wd:Str}{xs:List V} (h:jm4 wd xs=true):NoOp wd xs:=by
 unfold jm4 at h
 cases hi:inV (.str wd) ((["line","shelf","hire","ways","store","bags"]:List Str).map V.str) with
 | false=>exact .inl hi
 | true =>
  rw[hi] at h
  simp only[Bool.not_true,Bool.false_or,Bool.or_eq_true] at h
  rcases h with h | h
  ·refine .inr (.inl ⟨hi,?_⟩)
   split at h
   ·rename_i k e
    exact⟨k,e,by simpa using h⟩
   ·cases h
  ·exact .inr (.inr (jfb h))
def nfB (l:Str):Bool:=match Txt.split l ⟨#[32]⟩ with
 | w0 :: ws=>jm4 w0 (ws.map wrV)
 | []=>false
theorem nfB_ok {l:Str} (h:nfB l=true):ji6 l:=by
 unfold nfB at h
 cases e:Txt.split l ⟨#[32]⟩ with
 | nil=>rw[e] at h;cases h
 | cons w0 ws=>rw[e] at h;exact⟨w0,ws,e,jfc h⟩
theorem jfd:badF.all (fun l=>blB l && nfB l)=true:=by decide +kernel
theorem jdo {l:Str} (h:l∈badF):j81 l∧ji6 l:=by
 have:=List.all_eq_true.mp jfd l h
 rw[Bool.and_eq_true] at this
 exact⟨jch this.1,nfB_ok this.2⟩
def isSV:V→Bool
 | .str _=>true
 | _=>false
def jkB (l:Str):Bool:=match Txt.split l ⟨#[32]⟩ with
 | w0 :: ws=>!decide (w0=askS) || (ws.map wrV).isEmpty || ((ws.map wrV).any isSV && (decide (2≤(ws.map wrV).length) || (ws.map wrV).all fun x=>isSV x && !nmV x))
 | []=>false
theorem jk_wi {g:G83} (hg:g.ok) {xs:List V} (h:xs=[]∨(xs.any isSV=true∧(2≤xs.length∨(xs.all fun x=>isSV x && !nmV x)=true))):wiB g xs=false:=by
 have sf:∀ {x:V},isSV x=true→amt x=false∧plc x=false∧∀ R,fot R x=false:=fun {x} h=>by
  cases x with
  | str z=>exact⟨rfl,rfl,fun _=>rfl⟩
  | _=>cases h
 rcases h with rfl | ⟨h1,h2⟩
 ·cases g with
  | ways n t h'=>exact jau (by have:=hg.1;show 0≠n;omega)
  | _=>rfl
 ·obtain⟨x,hx,hs⟩:=List.any_eq_true.mp h1
  cases g with
  | ways n t h'=>exact jf5 hx (sf hs).1
  | line ns =>
   cases xs with
   | nil=>rfl
   | cons y r=>cases r with
    | nil=>cases List.mem_singleton.mp hx;exact (sf hs).2.1
    | cons _ _=>rfl
  | hire W =>
   cases xs with
   | nil=>rfl
   | cons y r=>cases r with
    | nil=>cases List.mem_singleton.mp hx;exact (sf hs).1
    | cons _ _=>rfl
  | bags R =>
   cases xs with
   | nil=>rfl
   | cons y r=>cases r with
    | nil=>cases List.mem_singleton.mp hx;exact (sf hs).2.2 R
    | cons _ _=>rfl
  | shelf ss =>
   cases xs with
   | nil=>rfl
   | cons y r=>cases r with
    | nil =>
     cases List.mem_singleton.mp hx
     rcases h2 with h2 | h2
     ·simp at h2
     ·simp at h2
      cases x with
      | str z =>
       have:nmS z=false:=h2.2
       show (nmS z && decide (z∈ss))=false
       rw[this]
       rfl
      | _=>rfl
    | cons _ _=>rfl
  | store ss =>
   cases xs with
   | nil=>rfl
   | cons y r=>cases r with
    | nil =>
     cases List.mem_singleton.mp hx
     rcases h2 with h2 | h2
     ·simp at h2
     ·simp at h2
      exact h2.2
    | cons _ _=>rfl
theorem jkB_ok {l:Str} (h:jkB l=true) {g:G83} (hg:g.ok):NoAsk g l:=by
 unfold jkB at h
 cases e:Txt.split l ⟨#[32]⟩ with
 | nil=>rw[e] at h;cases h
 | cons w0 ws =>
  rw[e] at h
  refine⟨w0,ws,e,?_⟩
  by_cases c:w0=askS
  ·right
   apply jk_wi hg
   simp only[decide_eq_true c,Bool.not_true,Bool.false_or,Bool.or_eq_true,Bool.and_eq_true,decide_eq_true_eq,List.isEmpty_iff] at h
   exact h
  ·exact .inl c
theorem jfe:badK.all (fun l=>blB l && jkB l)=true:=by decide +kernel
theorem jig {l:Str} (h:l∈badK) {g:G83} (hg:g.ok):j81 l∧NoAsk g l:=by
 have:=List.all_eq_true.mp jfe l h
 rw[Bool.and_eq_true] at this
 exact⟨jch this.1,jkB_ok this.2 hg⟩
theorem jay:∀ (A B:List Str) (i:Nat),j1d (A++B) i=j1d A i++j1d B (i+A.length)
 | [],B,i=>rfl
 | z :: r,B,i=>by
  show (if z=⟨#[]⟩ then j1d (r++B) (i+1) else (i,z) :: j1d (r++B) (i+1))=(if z=⟨#[]⟩ then j1d r (i+1) else (i,z) :: j1d r (i+1))++_
  rw[jay r B,show i+1+r.length=i+(z :: r).length by rw[List.length_cons];omega]
  split <;> rfl
theorem jaz {A B:List Str}{l:Str} (hl:l≠⟨#[]⟩):j1d (A++[l]++B) 0=j1d A 0++(A.length,l) :: j1d B (A.length+1):=by
 rw[jay,jay,List.append_assoc,List.length_append,Nat.zero_add]
 show _=_
 rw[show j1d [l] A.length=[(A.length,l)] by show (if l=⟨#[]⟩ then [] else [(A.length,l)])=_;rw[if_neg hl]]
 simp
theorem jcm {H:Hp}{z l:Str}{A B:List Str} (hz:z.length≤999990) (hs:Txt.split z ⟨#[10]⟩=A++[l]++B) (hA:(A.filter fun x=>!decide (x=⟨#[]⟩))=[]) (hl:j81 l) (hn:ji6 l):Ref H (.str z) A.length:=by
 have e0:j1d A 0=[]:=by
  have:=jal A 0
  rw[hA] at this
  exact List.map_eq_nil_iff.mp this
 exact .inr ⟨z,rfl,hz,.inr (.inl ⟨l,_,by rw[hs,jaz (jie hl.2.1),e0];rfl,hl.1,hl.2.2.1,hn⟩)⟩
theorem jb0 {H:Hp}{z l:Str}{A B:List Str}{g:G83}{ws:List W83} (hz:z.length≤999990) (hs:Txt.split z ⟨#[10]⟩=A++[l]++B) (hg:g.ok) (hw:∀ w∈ws,g.rs.okW w) (h200:ws.length≤200) (hA:(A.filter fun x=>!decide (x=⟨#[]⟩))=lnG g :: ws.map lnW) (hl:1≤l.length) (hb:BadA g ws l):Ref H (.str z) A.length:=by
 have e0:=jal A 0
 rw[hA] at e0
 cases hr:j1d A 0 with
 | nil=>rw[hr] at e0;cases e0
 | cons p rg =>
  rw[hr,List.map_cons] at e0
  injection e0 with e1 e2
  obtain⟨i0,y⟩:=p
  have e1:y=lnG g:=e1
  subst e1
  exact .inr ⟨z,rfl,hz,.inr (.inr ⟨g,ws,i0,rg,l,_,hg,hw,h200,by rw[hs,jaz (jie hl),hr];rfl,e2,hb⟩)⟩
theorem j57 {ww:W83}{v:V}{H:Hp}{Q:VK}{E:XK} (hv:ww.at_ H v) (hc:(∀ x∈ww.ps,ClV x)∧1≤ww.ps.length∧ww.ps.length≤8) (hq:∀ H',Ext H H'→Q (.str (Str.join ⟨#[32]⟩ (ww.ps.map txV))) H'):j3t [v] H Q E:=by
 refine⟨v,rfl,?_⟩
 cases ww with
 | l cs=>obtain⟨q,rfl,hq2⟩:=hv;exact .inl ⟨q,_,rfl,hq2,hc.1,hc.2.2,hq⟩
 | i z=>obtain rfl:v=.int z:=hv;exact .inr ⟨hc.1 _ List.mem_cons_self,hq H Ext.rfl'⟩
 | s z=>obtain rfl:v=.str z:=hv;exact .inr ⟨hc.1 _ List.mem_cons_self,hq H Ext.rfl'⟩
theorem j83 {xs:List V} (hc:(∀ x∈xs,ClV x)∧1≤xs.length∧xs.length≤8):(Str.join ⟨#[32]⟩ (xs.map txV)).length≤168:=by
 have:=j2w 32 (k:=20) (zs:=xs.map txV) fun z hz=>by
  obtain⟨v,h1,rfl⟩:=List.mem_map.mp hz
  exact (hc.1 v h1).sg.2.2
 rw[List.length_map] at this
 omega
theorem jcn {ww:W83} (h:1≤ww.ps.length):Str.ofString "ask "++Str.join ⟨#[32]⟩ (ww.ps.map txV)=lnW ww:=by
 unfold lnW
 rw[show Str.ofString "ask "=askS++(⟨#[32]⟩:Str) by decide]
 cases e:ww.ps with
 | nil=>rw[e] at h;simp at h
 | cons x r=>rfl
structure Lns (ls:List Str):Prop where
 ne:ls≠[]
 ln:∀ x∈ls,x.length≤900∧10∉x.cps.toList
 hi:ls.length≤1000
theorem Lns.ok {ls:List Str} (h:Lns ls):JoinOk ⟨#[10]⟩ ls=true:=jae 10 (k:=900) (n:=1000) (fun z hz=>(h.ln z hz).1) h.hi (by decide)
theorem Lns.sp {ls:List Str} (h:Lns ls):Txt.split (Str.join ⟨#[10]⟩ ls) ⟨#[10]⟩=ls:=j3j h.ne fun z hz=>(h.ln z hz).2
theorem Lns.len {ls:List Str} (h:Lns ls):(Str.join ⟨#[10]⟩ ls).length≤999990:=Nat.le_trans (j2w 10 (k:=900) fun z hz=>(h.ln z hz).1) (Nat.le_trans (Nat.mul_le_mul_left 901 h.hi) (by decide))
theorem LnOk.no {z:Str} (h:LnOk z):z.length≤900∧10∉z.cps.toList:=⟨by have:=h.2.2;omega,fun hc=>by rcases h.1 10 hc with (h | h | h) | h <;> omega⟩
theorem e_no:(⟨#[]⟩:Str).length≤900∧10∉(⟨#[]⟩:Str).cps.toList:=⟨by decide,by decide⟩
theorem AllW.app {H:Hp}:∀ {ws us:List W83}{vs xs:List V},AllW H ws vs→AllW H us xs→AllW H (ws++us) (vs++xs)
 | [],_,[],_,_,h=>h
 | _ :: _,_,_ :: _,_,⟨h1,h2⟩,h=>⟨h1,AllW.app h2 h⟩
 | [],_,_ :: _,_,h,_=>h.elim
 | _ :: _,_,[],_,h,_=>h.elim
theorem AllW.rpl {H:Hp}{w:W83}{v:V} (h:w.at_ H v):∀ k:Nat,AllW H (List.replicate k w) (List.replicate k v)
 | 0=>trivial
 | k+1=>⟨h,AllW.rpl h k⟩
theorem plW (w:W83):plD w.d=true:=by
 cases w with
 | i z=>rfl
 | s x=>rfl
 | l cs=>exact plI cs
theorem plWs:∀ ws:List W83,plDL (ws.map W83.d)=true
 | []=>rfl
 | w :: ws=>by show (plD w.d && plDL (ws.map W83.d))=true;rw[plW,plWs ws];rfl
def V.dd:V→D
 | .int n=>.int n
 | .str z=>.str z
 | _=>.non
theorem jih {H:Hp}:∀ {vs:List V},(∀ v∈vs,ClV v)→RepL H (vs.map V.dd) vs
 | [],_=>RepL.nil
 | v :: r,h=>by
  refine RepL.cons ?_ (jih fun u hu=>h u (List.mem_cons_of_mem _ hu))
  have:=h v List.mem_cons_self
  cases v with
  | int n=>exact .intI
  | str z=>exact rfl
  | _=>exact this.elim
theorem pl_cl:∀ {vs:List V},(∀ v∈vs,ClV v)→plDL (vs.map V.dd)=true∧D.depthL (vs.map V.dd)=0
 | [],_=>⟨rfl,rfl⟩
 | v :: r,h=>by
  obtain⟨i1,i2⟩:=pl_cl fun u hu=>h u (List.mem_cons_of_mem _ hu)
  have:=h v List.mem_cons_self
  cases v with
  | int n=>exact⟨by show (true && _)=true;rw[i1];rfl,by show max 0 _=0;rw[i2];rfl⟩
  | str z=>exact⟨by show (true && _)=true;rw[i1];rfl,by show max 0 _=0;rw[i2];rfl⟩
  | _=>exact this.elim
def G83.gd (g:G83) (ws:List W83):D:=.tup [.str g.word,.tup (g.tup.map V.dd),.lst (ws.map W83.d)]
theorem j8u {H:Hp}{g:G83}{ws:List W83}{t q l:Addr}{wvs:List V} (hok:g.ok) (ht:H t=some (.tup [.str g.word,.ref q,.ref l])) (hq:H q=some (.tup g.tup)) (hl:H l=some (.lst wvs)) (ha:AllW H ws wvs):Rep H (g.gd ws) (.ref t) :=
 Rep.tupI ht (RepL.cons rfl (RepL.cons (Rep.tupI hq (jih (G83.cl hok).1)) (RepL.cons (Rep.lstI hl ha.rep) RepL.nil)))
theorem jm7 {g:G83}{ws:List W83} (hok:g.ok) (hw:∀ w∈ws,g.rs.okW w):plD (g.gd ws)=true∧Nat.ble (g.gd ws).depth 5=true:=by
 obtain⟨p1,p2⟩:=pl_cl (G83.cl hok).1
 have:=(jce hok hw).2
 refine⟨?_,?_⟩
 ·show (true && (plDL (g.tup.map V.dd) && (plDL (ws.map W83.d) && true)))=true
  rw[p1,plWs]
  rfl
 ·show Nat.ble (max 0 (max (D.depthL (g.tup.map V.dd)+1) (max (D.depthL (ws.map W83.d)+1) 0))+1) 5=true
  rw[p2]
  exact Nat.ble_eq_true_of_le (by omega)
def sp_law (K:PySem.W.Frag):Sp:=fun vs H Q _=>∃ (p:Addr) (ns:List Int),vs=[.ref p]∧SqL K H p (ns.map V.int)∧ns.length≤63∧(∀ z∈ns,ib z≤1048576)∧∀ H',Q (.bl true) H'
theorem ok_law (T:Txt w K mg a):FnOk P w K mg base (CXU P w) 15 a.f_z65 a.d_z65 ["_law_script"] (sp_law K):=by
 refine T.F_z65.okU j25 (fun vs H Q E h=>?_) (fun cdv A outer s H vs Q E hr h=>?_)
 ·obtain⟨p0,cs,rfl,hS,hl,hb,hq⟩:=h
  rfl
 ·obtain⟨p0,cs,rfl,hS,hl,hb,hq⟩:=h
  refine⟨_,(j02 (jfo (j09 (j78 T) (hr.mono (by decide)) (by rfl) T.m_z51 T.F_z51.kp T.b_z51 .nil j0i (j00 (pv 0) j01)) (j8w rfl (j1n (j0p (i:=1) j25.nd rfl (by first | exact Or.inl rfl | exact Or.inr rfl)) (j1n (j0p (i:=2) j25.nd rfl (by first | exact Or.inl rfl | exact Or.inr rfl)) j5b))))
   (j02 (j0l (i:=3) j25.nd rfl (by first | exact Or.inl rfl | exact Or.inr rfl) (j1f oSl (pv 0) (j1m j05) (j1m j05)))
   (j02 (j5l (i:=4) (["_law_k"]:List Str) (["_law_word","_law_start_here","_law_cells"]:List Str) [1,2,3] j25.nd rfl (Or.inl rfl) rfl ⟨rfl,by decide +kernel,by decide +kernel,by rfl,⟨⟨rfl,by first | exact Or.inl rfl | exact Or.inr rfl,by first | exact Or.inl rfl | exact Or.inr rfl⟩,⟨rfl,by first | exact Or.inl rfl | exact Or.inr rfl,by first | exact Or.inl rfl | exact Or.inr rfl⟩,⟨rfl,by first | exact Or.inl rfl | exact Or.inr rfl,by first | exact Or.inl rfl | exact Or.inr rfl⟩,trivial⟩⟩ (j1u rfl T.n_range (j00 (j08 j24 (by rfl) T.n_len PySem.boot_len (j00 (pv 3) j01)) j01)) (fun _ _ _ _=>⟨(j0p (i:=0) (by show ((["_law_k"]:List Str)++(["_law_word","_law_start_here","_law_cells"]:List Str)).Nodup;decide +kernel) rfl (by first | exact Or.inl rfl | exact Or.inr rfl)),(show PTs _ [] [] from trivial),(j09 (j8t T) (hr.mono (by decide)) (by rfl) T.m_z58 T.F_z58.kp T.b_z58 .nil j0i (j00 (pv 1) (j00 (pv 2) (j00 (j1h oIx (pv 3) (pv 0) (fun _ _=>rfl)) (j00 (j0f j0y (pv 0) j05) j01)))))⟩))
   (j02 (j0l (i:=5) j25.nd rfl (by first | exact Or.inl rfl | exact Or.inr rfl) (j09 (j15 T) (hr.mono (by decide)) (by rfl) T.m_z48 T.F_z48.kp T.b_z48 .nil j0i (j00 (j09 (j29 T) (hr.mono (by decide)) (by rfl) T.m_z56 T.F_z56.kp T.b_z56 .nil j0i (j00 (pv 0) (j00 j05 j01))) (j00 j05 j01))))
   (j02 (j0l (i:=6) j25.nd rfl (by first | exact Or.inl rfl | exact Or.inr rfl) (j09 (j66 T) (hr.mono (by decide)) (by rfl) T.m_z38 T.F_z38.kp T.b_z38 .nil j0i (j00 (pv 0) (j00 (j09 (j74 T) (hr.mono (by decide)) (by rfl) T.m_z47 T.F_z47.kp T.b_z47 .nil j0i (j00 (pv 1) (j00 (pv 2) (j00 (pv 4) j01)))) j01))))
   (j02 (j0l (i:=7) j25.nd rfl (by first | exact Or.inl rfl | exact Or.inr rfl) (j1h oIx (j0o (j00 (j09 (j56 T) (hr.mono (by decide)) (by rfl) T.m_z26 T.F_z26.kp T.b_z26 .nil j0i (j00 (j0f j0x (pv 5) j05) j01)) (j00 (j09 (j64 T) (hr.mono (by decide)) (by rfl) T.m_z37 T.F_z37.kp T.b_z37 .nil j0i (j00 (pv 1) (j00 (pv 2) (j00 (j0f j0x (pv 5) j05) j01)))) j01))) (j0f j0u (j0f j0x (pv 5) j05) j05) (fun _ _=>rfl)))
   (j02 (j0l (i:=8) j25.nd rfl (by first | exact Or.inl rfl | exact Or.inr rfl) (j0f j0y j05 (j0f j0u (j0f j0x (pv 5) j05) (j0f j0y (j08 j24 (by rfl) T.n_len PySem.boot_len (j00 (pv 4) j01)) j05))))
   (j02 (j12 (j0h (oEq hr) (j0f j0u (pv 5) j05) j05 (j0j _)) (j02 (j0l (i:=7) j25.nd rfl (by first | exact Or.inl rfl | exact Or.inr rfl) (j09 (j3s T) (hr.mono (by decide)) (by rfl) T.m_z13 T.F_z13.kp T.b_z13 .nil j0i (j00 (j0f j0x (pv 5) j05) j01)))
   (j03 (j0l (i:=8) j25.nd rfl (by first | exact Or.inl rfl | exact Or.inr rfl) j05))) j0d)
   (j02 (jfo (j09 (jax T) (hr.mono (by decide)) (by rfl) T.m_z60 T.F_z60.kp T.b_z60 .nil j0i (j00 (pv 6) (j00 (pv 8) (j00 (pv 7) j01)))) (j8w rfl (j1n (j0p (i:=9) j25.nd rfl (by first | exact Or.inl rfl | exact Or.inr rfl)) (j1n (j0p (i:=10) j25.nd rfl (by first | exact Or.inl rfl | exact Or.inr rfl)) j5b))))
   (j02 (j12 (j0w (ptT (j09 (j1a T) (hr.mono (by decide)) (by rfl) T.m_z27 T.F_z27.kp T.b_z27 .nil j0i (j00 (j8v PySem.F.plainAttrs_str PySem.F.slot_str_join PySem.F.type_str_join j2p j06 (j00 (pv 9) j01)) (j00 (pv 10) j01))) (fun _=>rfl))) (j03 (j0c j4c)) j0d)
   (j02 (j12 (PW.pt (jb5 (j0h (oNe hr) (pv 4) (j0o j01) (j0j _)) (jb5 (j0h (oEq hr) (j0f j0u (pv 5) j05) j05 (j0j _)) (jcp (PW.pt (j58 (j0h (oNe hr) (pv 1) j06 (j0j _)) (j2a (j0h jfq (j1h oIx (pv 2) j05 (fun _ _=>rfl)) j05 (j0j _))))))))) (j02 (j0l (i:=11) j25.nd rfl (by first | exact Or.inl rfl | exact Or.inr rfl) (j0f j8d (j0o (j00 (j0f j0y j06 (j09 (j1x T) (hr.mono (by decide)) (by rfl) T.m_z53 T.F_z53.kp T.b_z53 .nil j0i (j00 (j1h oIx (pv 4) (jfg j88 j05) (fun _ _=>rfl)) j01))) j01)) (j0f jdr j05 (j08 j24 (by rfl) T.n_len PySem.boot_len (j00 (pv 4) j01)))))
   (j02 (j0l (i:=12) j25.nd rfl (by first | exact Or.inl rfl | exact Or.inr rfl) (j0f j8d (j0o (j00 j06 j01)) (j0f j0u (j0f j0x (pv 5) j05) j05)))
   (j02 (j0l (i:=13) j25.nd rfl (by first | exact Or.inl rfl | exact Or.inr rfl) (j0f j8d (j0o (j00 (j0f j0y j06 (j09 (j1x T) (hr.mono (by decide)) (by rfl) T.m_z53 T.F_z53.kp T.b_z53 .nil j0i (j00 (j1h oIx (pv 4) j05 (fun _ _=>rfl)) j01))) j01)) (j0f j0y j05 (j0f j0u (j0f j0x (pv 5) j05) j05))))
   (j02 (j0l (i:=10) j25.nd rfl (by first | exact Or.inl rfl | exact Or.inr rfl) (j0f j0y (j0f j0y (j08 j24 (by rfl) T.n_len PySem.boot_len (j00 (pv 6) j01)) (j08 j24 (by rfl) T.n_len PySem.boot_len (j00 (pv 11) j01))) (j08 j24 (by rfl) T.n_len PySem.boot_len (j00 (pv 12) j01))))
   (j02 (j12 (j0w (ptT (j09 (j1a T) (hr.mono (by decide)) (by rfl) T.m_z27 T.F_z27.kp T.b_z27 .nil j0i (j00 (j8v PySem.F.plainAttrs_str PySem.F.slot_str_join PySem.F.type_str_join j2p j06 (j00 (j0f j0y (j0f j0y (j0f j0y (pv 6) (pv 11)) (pv 12)) (pv 13)) j01)) (j00 (pv 10) j01))) (fun _=>rfl))) (j03 (j0c j4c)) j0d)
   (j02 (j0l (i:=14) j25.nd rfl (by first | exact Or.inl rfl | exact Or.inr rfl) (j2e (j00 (pv 1) (j00 (pv 2) (j00 (j0f j0y (pv 4) (j0f j8d (j0o (j00 (j1h oIx (pv 4) (jfg j88 j05) (fun _ _=>rfl)) j01)) (j08 j24 (by rfl) T.n_len PySem.boot_len (j00 (pv 11) j01)))) j01)))))
   (j03 (j12 (j0w (ptT (j09 (j2x T) (hr.mono (by decide)) (by rfl) T.m_z57 T.F_z57.kp T.b_z57 .nil j0i (j00 (j09 (j2g T) (hr.mono (by decide)) (by rfl) T.m_z54 T.F_z54.kp T.b_z54 .nil j0i (j00 (j8v PySem.F.plainAttrs_str PySem.F.slot_str_join PySem.F.type_str_join j2p j06 (j00 (j0f j0y (pv 6) (pv 11)) j01)) j01)) (j00 (pv 14) j01))) (fun _=>rfl))) (j03 (j0c j4c)) j0d)))))))) j0d)
   (j03 (j0c (j1p (jdy (j4b T) (hr.mono (by decide)) (by rfl) T.m_z21 T.F_z21.kp T.b_z21 .nil j0i) (j23 (j09 (j2x T) (hr.mono (by decide)) (by rfl) T.m_z57 T.F_z57.kp T.b_z57 .nil j0i (j00 (j09 (j2g T) (hr.mono (by decide)) (by rfl) T.m_z54 T.F_z54.kp T.b_z54 .nil j0i (j00 (j8v PySem.F.plainAttrs_str PySem.F.slot_str_join PySem.F.type_str_join j2p j06 (j00 (pv 6) j01)) j01)) (j00 (j2e (j00 (pv 1) (j00 (pv 2) (j00 (pv 4) j01)))) j01)))))))))))))))))),?_⟩
  walk_at "v"
  refine⟨p0,cs,rfl,hS,hb,fun t0 wd p g H1 q0 hg1 e1=>?_⟩
  walk_at "v"
  refine r_slQ (e1.seqL hS) fun cl H2 n2 q2 e2=>?_
  obtain⟨ms,ems,lms,hms⟩:=cut82 cs
  rw[ems] at q2
  walk_at "v"
  refine j10 q2 ?_
  rw[List.length_map]
  walk_at "v"
  refine⟨_,rfl,by omega,by omega,fun wl hn _ _ _ _=>j2m (by omega) hn (fun j ys H3=>∃ ws:List W83,AllW H3 ws ys∧ws.length=j∧∀ w∈ws,g.rs.okW w) ⟨[],trivial,rfl,fun w h=>by cases h⟩ (fun _ _ _ _ k ⟨ws,h1,h2⟩=>⟨ws,h1.mono fun _ _ z=>k _ _ z rfl,h2⟩) (fun j ys H' _ ⟨ws,h1,h2,_⟩=>by rw[h1.len];omega) ?_ ?_⟩
  ·rintro j ys H3 hj e ⟨ws,h1,h2,h3⟩ Y N hY hN
   rw[show ((0:Int)+(j:Nat))=(j:Nat) by omega]
   walk_at "v"
   refine j26 (e _ _ q2) (j9r (by omega) (by omega)) ?_
   walk_at "v"
   refine⟨g,wd,p,_,_,rfl,(hg1.ext e2).ext e,hb _ (hms _ (by rw[List.getD_eq_getElem?_getD,List.getElem?_eq_getElem (show ((j:Int)).toNat < ms.length by omega)];exact List.getElem_mem _)),by omega,by omega,fun v ww H4 a4 o4 e4=>?_⟩
   exact hY _ _ e4 ⟨ws++[ww],AllW.snoc a4 (h1.mono fun _ _ z=>e4 _ _ z),by simp[h2],fun x hx=>(List.mem_append.mp hx).elim (h3 x) fun z=>by rw[List.mem_singleton.mp z];exact o4⟩
  rintro wvs H3 e3 wq3 ⟨ws,wa3,lw,okw⟩
  have lwv:=wa3.len
  have hok:=hg1.2.2
  have hgw:=hg1.1
  subst hgw
  have hp3:=e3 _ _ (e2 _ _ hg1.2.1)
  have x3:=e1.tr (e2.tr e3)
  have l30:ws.length≤30:=by omega
  walk_at "v"
  refine⟨p0,cs,0,rfl,x3.seqL hS,by decide,hb,fun c hc=>?_⟩
  walk_at "v"
  refine⟨_,_,rfl,by decide,by decide,fun n n0 n1=>?_⟩
  walk_at "v"
  refine⟨g,g.word,p,wl,ws,wvs,rfl,⟨rfl,hp3,hok⟩,wq3,wa3,okw,by omega,fun l4 H4 n4 q4 e4=>?_⟩
  have x4:=x3.tr e4
  have hzs:∀ z∈lnG g :: ws.map lnW,LnOk z:=fun z hz=>by
   rcases List.mem_cons.mp hz with rfl | hz
   ·exact (jez hok).2
   ·obtain⟨w,hw,rfl⟩:=List.mem_map.mp hz
    exact (j8m hok (okw w hw)).2
  walk_at "v"
  refine⟨p0,l4,cs,lnG g :: ws.map lnW,rfl,x4.seqL hS,hb,q4,hzs,by simp;omega,fun f fs H5 n5 q5 hm5 hfl5 hln5 e5=>?_⟩
  have hfl:fs.length≤93:=by simp at hln5;omega
  have hfs:∀ x∈fs,x.length≤900∧10∉x.cps.toList:=fun x hx=>by
   rcases hm5 x hx with rfl | hx
   ·exact e_no
   ·exact (hzs x hx).no
  have e35:=e4.tr e5
  have hp5:=e35 _ _ hp3
  have wq5:=e35 _ _ wq3
  have wa5:AllW H5 ws wvs:=wa3.mono fun _ _ z=>e35 _ _ z
  have x5:=x3.tr e35
  have nefs:fs≠[]:=fun z=>by rw[z] at hfl5;cases hfl5
  have lfs:Lns fs:=⟨nefs,hfs,by omega⟩
  walk_at "v"
  refine⟨_,rfl,by omega,fun lk H6 mk6 e6=>?_⟩
  obtain⟨bk1,bk2⟩:=jig mk6 hok
  walk_at "v"
  refine⟨g,g.word,p,_,rfl,⟨rfl,e6 _ _ hp5,hok⟩,by omega,fun lb H7 bl7 nb7 e7=>?_⟩
  walk_at "v"
  intro l8 H8 n8 q8 e8
  obtain⟨bad,hat,bl,nb⟩:∃ bad,atI [V.str lk,V.str lb] (n / 2 % 2)=some (.str bad)∧j81 bad∧NoAsk g bad:=by
   have h2:n / 2 % 2=0∨n / 2 % 2=1:=by omega
   rcases h2 with e | e <;> rw[e]
   ·exact⟨lk,rfl,bk1,bk2⟩
   ·exact⟨lb,rfl,bl7,nb7⟩
  walk_at "v"
  refine j26 q8 hat ?_
  have e58:=e6.tr (e7.tr e8)
  walk_at "v"
  refine j10 (e58 _ _ wq5) ?_
  rw[lwv]
  obtain⟨k,ek,k1⟩:∃ k:Nat,n / 64 % ((ws.length:Int)+1)=k∧k≤ws.length:=⟨(n / 64 % ((ws.length:Int)+1)).toNat,by
   have:=Int.emod_nonneg (n / 64) (show (ws.length:Int)+1≠0 by omega)
   omega,by
   have:=Int.emod_lt_of_pos (n / 64) (show (0:Int) < (ws.length:Int)+1 by omega)
   omega⟩
  repeat (first | with_reducible refine j6q (fun σ' H9=>∃ (bad:Str) (j:Nat),σ'=[some (.ref p0),some (.str g.word),some (.ref p),some (.ref cl),some (.ref wl),some (.int n),some (.ref f),some (.str bad),some (.int (j:Nat)),none,none,none,none,none,none]∧Ext H5 H9∧j81 bad∧((j=0∧ji6 bad)∨∃ k,j=k+1∧k≤ws.length∧NoAsk g bad)) ?_ (fun hK=>?_) | walk_at "vs")
  rotate_left
  ·rw[ek,show (1:Int)+(k:Nat)=((k+1:Nat):Int) by omega]
   walk_at "v"
   refine iteD (fun c4=>?_) (fun c4=>?_)
   ·walk_at "v"
    refine⟨_,rfl,by omega,fun l H9 ml e9=>?_⟩
    repeat (first | exact hK _ _ ⟨l,0,rfl,e58.tr e9,(jdo ml).1,.inl ⟨rfl,(jdo ml).2⟩⟩ | walk_at "vs")
   ·repeat (first | exact hK _ _ ⟨bad,k+1,rfl,e58,bl,.inr ⟨k,rfl,k1,nb⟩⟩ | walk_at "vs")
  rintro σ' H9 ⟨bad,j,rfl,x9,bl,hj⟩
  have nl:Str.ofString "\n"=(⟨#[10]⟩:Str):=by decide
  walk_at "v"
  refine⟨f,fs,j,bad,rfl,x9 _ _ q5,by omega,fun t l2 pl HA qt ql hpl hfp eA=>?_⟩
  have lfa:Lns (fs.take pl++[bad]++fs.drop pl):=⟨by simp,fun x hx=>by
   rcases List.mem_append.mp hx with hx | hx
   ·rcases List.mem_append.mp hx with hx | hx
    ·exact hfs x (List.mem_of_mem_take hx)
    ·rw[List.mem_singleton.mp hx];exact⟨bl.2.2.1,bl.2.2.2⟩
   ·exact hfs x (List.mem_of_mem_drop hx),by simp;omega⟩
  have ltk:(fs.take pl).length=pl:=by rw[List.length_take];omega
  have href:∀ HB:Hp,Ref HB (.str (Str.join ⟨#[10]⟩ (fs.take pl++[bad]++fs.drop pl))) pl:=fun HB=>by
   rw[hfl5] at hfp
   rcases hj with⟨rfl,hn⟩ | ⟨k,rfl,hk,hn⟩
   ·have:=jcm (H:=HB) lfa.len lfa.sp (by rw[hfp];rfl) bl hn
    rwa [ltk] at this
   ·have:=jb0 (H:=HB) (ws:=ws.take k) lfa.len lfa.sp hok (fun w hw=>okw w (List.mem_of_mem_take hw)) (by rw[List.length_take];omega) (by rw[hfp,List.take_succ_cons,List.map_take]) bl.2.1 (.inl ⟨bl.1,bl.2.2.1,hn⟩)
    rwa [ltk] at this
  have x5A:=x9.tr eA
  walk_at "v"
  rw[nl]
  refine j3g ql lfa.ok ?_
  walk_at "v"
  refine⟨_,pl,rfl,href _,fun HB eB=>?_⟩
  have x5B:=x5A.tr eB
  obtain⟨gp1,gp2⟩:=jm7 hok okw
  repeat (first | with_reducible refine j6q (fun σ' HC=>(∃ u1 u2 u3 u4 u5 u6 u7 u8,σ'=[some (.ref p0),some (.str g.word),some (.ref p),some (.ref cl),some (.ref wl),some (.int n),some (.ref f),u1,u2,u3,u4,u5,u6,u7,u8])∧Ext H5 HC) ?_ (fun hK=>?_) | walk_at "vs")
  rotate_left
  ·have stay:∀ HC,Ext HB HC→Ext H5 HC:=fun HC e=>x5B.tr e
   have wqB:=x5B _ _ wq5
   have waB:AllW HB ws wvs:=wa5.mono fun _ _ z=>x5B _ _ z
   have hpB:=x5B _ _ hp5
   have qfB:=x5B _ _ q5
   walk_at "v"
   intro lC HC nC qC eC
   have wqC:=eC _ _ wqB
   have waC:AllW HC ws wvs:=waB.mono fun _ _ z=>eC _ _ z
   have hpC:=eC _ _ hpB
   have qfC:=eC _ _ qfB
   walk_at "v"
   refine r_neD (a:=.lst (ws.map W83.d)) (b:=.lst []) (Rep.lstI wqC waC.rep) (Rep.lstI qC RepL.nil) (jce hok okw).1 rfl (by have:=(jce hok okw).2;show D.depthL (ws.map W83.d)+1≤20;omega) ?_
   rw[jev]
   walk_at "v"
   refine iteN (fun cn=>?_) (fun cn=>?_)
   rotate_left
   ·repeat (first | exact hK _ _ ⟨⟨_,_,_,_,_,_,_,_,rfl⟩,stay _ eC⟩ | walk_at "vs")
   walk_at "v"
   refine iteD (fun c3=>?_) (fun c3=>?_)
   rotate_left
   ·repeat (first | exact hK _ _ ⟨⟨_,_,_,_,_,_,_,_,rfl⟩,stay _ eC⟩ | walk_at "vs")
   have wpos:0 < ws.length:=List.length_pos_iff.mpr cn
   obtain⟨lv,hlv,lat⟩:=waC.get (List.getElem?_eq_getElem (show ws.length-1 < ws.length by omega))
   have lok:=okw _ (List.getElem_mem (show ws.length-1 < ws.length by omega))
   obtain⟨fv,hfv,fat⟩:=waC.get (List.getElem?_eq_getElem wpos)
   have fok:=okw _ (List.getElem_mem wpos)
   generalize ws[ws.length-1]=lw0 at *
   generalize ws[0]=fw0 at *
   have hlast:atI wvs (-1)=some lv:=by
    have e:ixN wvs.length (-1)=some (ws.length-1):=by unfold ixN;rw[if_neg (by decide),if_pos (by omega)];congr 1;omega
    unfold atI
    rw[e]
    exact hlv
   have hfst:atI wvs 0=some fv:=j18 (by decide) hfv
   walk_at "v"
   refine j6n ?_
   by_cases hwy:g.word=Str.ofString "ways"
   ·rw[decide_eq_true hwy]
    have hgt:∃ n t h,g=.ways n t h:=by
     cases g with
     | ways n t h=>exact⟨n,t,h,rfl⟩
     | line ns=>exact absurd hwy (by show ¬ Str.ofString "line"=Str.ofString "ways";decide)
     | shelf ns=>exact absurd hwy (by show ¬ Str.ofString "shelf"=Str.ofString "ways";decide)
     | hire ns=>exact absurd hwy (by show ¬ Str.ofString "hire"=Str.ofString "ways";decide)
     | store ns=>exact absurd hwy (by show ¬ Str.ofString "store"=Str.ofString "ways";decide)
     | bags ns=>exact absurd hwy (by show ¬ Str.ofString "bags"=Str.ofString "ways";decide)
    obtain⟨nn,tt,hh,rfl⟩:=hgt
    walk_at "v"
    refine j11 hpC rfl ?_
    walk_at "v"
    refine iteD (fun c5=>?_) (fun c5=>?_)
    rotate_left
    ·repeat (first | exact hK _ _ ⟨⟨_,_,_,_,_,_,_,_,rfl⟩,stay _ eC⟩ | walk_at "vs")
    walk_at "v"
    refine j26 wqC hlast ?_
    walk_at "v"
    refine j57 lat (j2b hok lok) fun HD eD=>?_
    have jD:=j83 (j2b hok lok)
    walk_at "v"
    refine j0v (by show 4+_≤_;omega) ?_
    rw[jcn (j2b hok lok).2.1]
    walk_at "v"
    intro l6 H6' n6 q6 e6'
    have eC6:=eD.tr e6'
    walk_at "v"
    refine j10 (eC6 _ _ wqC) ?_
    rw[lwv]
    walk_at "v"
    refine j3y q6 (by omega) (by omega) fun l7 H7' n7 q7 e7'=>?_
    have eC7:=eC6.tr e7'
    obtain⟨m,em⟩:∃ m:Nat,(200-(ws.length:Int)).toNat=m:=⟨_,rfl⟩
    have hm:m=200-ws.length:=by omega
    rw[em] at q7
    have q7:H7' l7=some (.lst ((List.replicate m (lnW lw0)).map V.str)):=by rw[q7,List.map_replicate]
    walk_at "v"
    intro l8' H8' n8' q8' e8'
    walk_at "v"
    refine j3y q8' (by omega) (by omega) fun l9 H9' n9 q9 e9'=>?_
    obtain⟨b,eb,b2⟩:∃ b:Nat,(n / 3 % 3).toNat=b∧b≤2:=⟨_,rfl,by omega⟩
    rw[eb] at q9
    have q9:H9' l9=some (.lst ((List.replicate b (⟨#[]⟩:Str)).map V.str)):=by rw[q9,List.map_replicate,show Str.ofString ""=(⟨#[]⟩:Str) by decide]
    have eC9:=eC7.tr (e8'.tr e9')
    walk_at "v"
    refine j26 (eC9 _ _ wqC) hfst ?_
    walk_at "v"
    refine j57 (W83.mono (fun _ _ z=>eC9 _ _ z) fat) (j2b hok fok) fun HE eE=>?_
    have jE:=j83 (j2b hok fok)
    walk_at "v"
    refine j0v (by show 4+_≤_;omega) ?_
    rw[jcn (j2b hok fok).2.1]
    walk_at "v"
    intro lF HF nF qF eF
    walk_at "v"
    refine j3y qF (by omega) (by omega) fun lG HG nG qG eG=>?_
    obtain⟨d,ed,d1,d3⟩:∃ d:Nat,(1+n / 9 % 3).toNat=d+1∧0≤d∧d≤2:=⟨(n / 9 % 3).toNat,by omega,by omega,by omega⟩
    rw[ed] at qG
    have qG:HG lG=some (.lst ((List.replicate (d+1) (lnW fw0)).map V.str)):=by rw[qG,List.map_replicate]
    have e9G:=eE.tr (eF.tr eG)
    have eCG:=eC9.tr e9G
    have qfG:=eCG _ _ qfC
    have q7G:=(e8'.tr (e9'.tr e9G)) _ _ q7
    have q9G:=e9G _ _ q9
    walk_at "v"
    refine j10 qfG ?_
    walk_at "v"
    refine j10 q7G ?_
    walk_at "v"
    refine j10 q9G ?_
    rw[List.length_map,List.length_map,List.length_map,List.length_replicate,List.length_replicate]
    walk_at "v"
    refine j0r qfG q7G (by simp;omega) fun lH HH nH qH eH=>?_
    rw[← List.map_append] at qH
    walk_at "v"
    refine j0r qH (eH _ _ q9G) (by simp;omega) fun lI HI nI qI eI=>?_
    rw[← List.map_append] at qI
    walk_at "v"
    refine j0r qI ((eH.tr eI) _ _ qG) (by simp;omega) fun lJ HJ nJ qJ eJ=>?_
    rw[← List.map_append] at qJ
    have eGJ:=eH.tr (eI.tr eJ)
    have lw0n:=(j8m hok lok).2
    have fw0n:=(j8m hok fok).2
    have fa:(fs++List.replicate m (lnW lw0)).filter (fun x=>!decide (x=⟨#[]⟩))=lnG (G83.ways nn tt hh) :: (ws++List.replicate m lw0).map lnW:=by
     rw[j8r,hfl5,List.filter_replicate,if_pos (by simp[jie lw0n.2.1]),List.map_append,List.map_replicate,List.cons_append]
    have hall:Lns (fs++List.replicate m (lnW lw0)++List.replicate b ⟨#[]⟩++List.replicate (d+1) (lnW fw0)):=⟨by simp,fun x hx=>by
     rcases List.mem_append.mp hx with hx | hx
     ·rcases List.mem_append.mp hx with hx | hx
      ·rcases List.mem_append.mp hx with hx | hx
       ·exact hfs x hx
       ·rw[(List.mem_replicate.mp hx).2];exact lw0n.no
      ·rw[(List.mem_replicate.mp hx).2];exact e_no
     ·rw[(List.mem_replicate.mp hx).2];exact fw0n.no,by simp;omega⟩
    have okl:∀ w∈ws++List.replicate m lw0,(G83.ways nn tt hh).rs.okW w:=fun w hw=>(List.mem_append.mp hw).elim (okw w) fun h=>by rw[(List.mem_replicate.mp h).2];exact lok
    have hrefB:∀ HK:Hp,Ref HK (.str (Str.join ⟨#[10]⟩ (fs++List.replicate m (lnW lw0)++List.replicate b ⟨#[]⟩++List.replicate (d+1) (lnW fw0)))) (fs.length+m+b):=fun HK=>by
     have:=jb0 (H:=HK) (l:=lnW fw0) (A:=fs++List.replicate m (lnW lw0)++List.replicate b ⟨#[]⟩) (B:=List.replicate d (lnW fw0)) (ws:=ws++List.replicate m lw0) hall.len (by rw[hall.sp,List.replicate_succ];simp) hok okl (by rw[List.length_append,List.length_replicate];omega) (by rw[j8r,jf8,List.append_nil];exact fa) fw0n.2.1 (.inr ⟨by rw[List.length_append,List.length_replicate];omega,fw0,rfl,fok⟩)
     rwa [show (fs++List.replicate m (lnW lw0)++List.replicate b (⟨#[]⟩:Str)).length=fs.length+m+b by simp;omega] at this
    walk_at "v"
    try rw[nl]
    refine j3g qJ hall.ok ?_
    walk_at "v"
    rw[show (fs.length:Int)+(m:Nat)+(b:Nat)=((fs.length+m+b:Nat):Int) by omega]
    refine⟨_,_,rfl,hrefB _,fun HK eK=>?_⟩
    have eCK:=eCG.tr (eGJ.tr eK)
    walk_at "v"
    refine j26 (eCK _ _ wqC) hlast ?_
    walk_at "v"
    intro lL HL nL qL eL
    walk_at "v"
    refine j10 ((eGJ.tr (eK.tr eL)) _ _ q7G) ?_
    rw[List.length_map,List.length_replicate]
    walk_at "v"
    refine j3y qL (by omega) (by omega) fun lM HM nM qM eM=>?_
    rw[Int.toNat_natCast] at qM
    have eCM:=eCK.tr (eL.tr eM)
    walk_at "v"
    refine j0r (eCM _ _ wqC) qM (by rw[List.length_replicate];omega) fun lN HN nN qN eN=>?_
    have eCN:=eCM.tr eN
    walk_at "v"
    intro tO HO nO qO eO
    have eCO:=eCN.tr eO
    walk_at "v"
    refine j0r (eCO _ _ qfC) ((eGJ.tr (eK.tr (eL.tr (eM.tr (eN.tr eO))))) _ _ q7G) (by simp;omega) fun lP HP nP qP eP=>?_
    rw[← List.map_append] at qP
    have hal2:Lns (fs++List.replicate m (lnW lw0)):=⟨by simp[nefs],fun x hx=>by
     rcases List.mem_append.mp hx with hx | hx
     ·exact hfs x hx
     ·rw[(List.mem_replicate.mp hx).2];exact lw0n.no,by simp;omega⟩
    walk_at "v"
    try rw[nl]
    refine j3g qP hal2.ok ?_
    walk_at "v"
    refine⟨_,rfl,.inl ⟨_,(G83.ways nn tt hh),ws++List.replicate m lw0,rfl,hal2.len,hok,okl,by rw[List.length_append,List.length_replicate];omega,by rw[hal2.sp];exact fa,fun tQ qQ lQ wvQ HQ qtQ qqQ nQ qlQ aQ eQ=>?_⟩⟩
    have eOQ:=eP.tr eQ
    obtain⟨gq1,gq2⟩:=jm7 hok okl
    walk_at "v"
    refine j4y (d:=G83.gd (G83.ways nn tt hh) (ws++List.replicate m lw0)) (j8u hok qtQ qqQ qlQ aQ) (j8u hok (eOQ _ _ qO) ((eCO.tr eOQ) _ _ hpC) ((eO.tr eOQ) _ _ qN) (AllW.app (waC.mono fun _ _ z=>(eCO.tr eOQ) _ _ z) (AllW.rpl (W83.mono (fun _ _ z=>(eCO.tr eOQ) _ _ z) lat) m))) gq1 gq2 fun HR eR=>?_
    repeat (first | exact hK _ _ ⟨⟨_,_,_,_,_,_,_,_,rfl⟩,stay _ (eC.tr (eCO.tr (eOQ.tr eR)))⟩ | walk_at "vs")
   ·rw[decide_eq_false hwy]
    walk_at "v"
    refine j26 wqC hlast ?_
    walk_at "v"
    refine j57 lat (j2b hok lok) fun HD eD=>?_
    have jD:=j83 (j2b hok lok)
    walk_at "v"
    refine j0v (by show 4+_≤_;omega) ?_
    rw[jcn (j2b hok lok).2.1]
    walk_at "v"
    intro l6 H6' n6 q6 e6'
    have eC6:=eD.tr e6'
    walk_at "v"
    refine j10 (eC6 _ _ wqC) ?_
    rw[lwv]
    walk_at "v"
    refine j3y q6 (by omega) (by omega) fun l7 H7' n7 q7 e7'=>?_
    have eC7:=eC6.tr e7'
    obtain⟨m,em⟩:∃ m:Nat,(200-(ws.length:Int)).toNat=m:=⟨_,rfl⟩
    have hm:m=200-ws.length:=by omega
    rw[em] at q7
    have q7:H7' l7=some (.lst ((List.replicate m (lnW lw0)).map V.str)):=by rw[q7,List.map_replicate]
    walk_at "v"
    intro l8' H8' n8' q8' e8'
    walk_at "v"
    refine j3y q8' (by omega) (by omega) fun l9 H9' n9 q9 e9'=>?_
    obtain⟨b,eb,b2⟩:∃ b:Nat,(n / 3 % 3).toNat=b∧b≤2:=⟨_,rfl,by omega⟩
    rw[eb] at q9
    have q9:H9' l9=some (.lst ((List.replicate b (⟨#[]⟩:Str)).map V.str)):=by rw[q9,List.map_replicate,show Str.ofString ""=(⟨#[]⟩:Str) by decide]
    have eC9:=eC7.tr (e8'.tr e9')
    walk_at "v"
    refine j26 (eC9 _ _ wqC) hfst ?_
    walk_at "v"
    refine j57 (W83.mono (fun _ _ z=>eC9 _ _ z) fat) (j2b hok fok) fun HE eE=>?_
    have jE:=j83 (j2b hok fok)
    walk_at "v"
    refine j0v (by show 4+_≤_;omega) ?_
    rw[jcn (j2b hok fok).2.1]
    walk_at "v"
    intro lF HF nF qF eF
    walk_at "v"
    refine j3y qF (by omega) (by omega) fun lG HG nG qG eG=>?_
    obtain⟨d,ed,d1,d3⟩:∃ d:Nat,(1+n / 9 % 3).toNat=d+1∧0≤d∧d≤2:=⟨(n / 9 % 3).toNat,by omega,by omega,by omega⟩
    rw[ed] at qG
    have qG:HG lG=some (.lst ((List.replicate (d+1) (lnW fw0)).map V.str)):=by rw[qG,List.map_replicate]
    have e9G:=eE.tr (eF.tr eG)
    have eCG:=eC9.tr e9G
    have qfG:=eCG _ _ qfC
    have q7G:=(e8'.tr (e9'.tr e9G)) _ _ q7
    have q9G:=e9G _ _ q9
    walk_at "v"
    refine j10 qfG ?_
    walk_at "v"
    refine j10 q7G ?_
    walk_at "v"
    refine j10 q9G ?_
    rw[List.length_map,List.length_map,List.length_map,List.length_replicate,List.length_replicate]
    walk_at "v"
    refine j0r qfG q7G (by simp;omega) fun lH HH nH qH eH=>?_
    rw[← List.map_append] at qH
    walk_at "v"
    refine j0r qH (eH _ _ q9G) (by simp;omega) fun lI HI nI qI eI=>?_
    rw[← List.map_append] at qI
    walk_at "v"
    refine j0r qI ((eH.tr eI) _ _ qG) (by simp;omega) fun lJ HJ nJ qJ eJ=>?_
    rw[← List.map_append] at qJ
    have eGJ:=eH.tr (eI.tr eJ)
    have lw0n:=(j8m hok lok).2
    have fw0n:=(j8m hok fok).2
    have fa:(fs++List.replicate m (lnW lw0)).filter (fun x=>!decide (x=⟨#[]⟩))=lnG g :: (ws++List.replicate m lw0).map lnW:=by
     rw[j8r,hfl5,List.filter_replicate,if_pos (by simp[jie lw0n.2.1]),List.map_append,List.map_replicate,List.cons_append]
    have hall:Lns (fs++List.replicate m (lnW lw0)++List.replicate b ⟨#[]⟩++List.replicate (d+1) (lnW fw0)):=⟨by simp,fun x hx=>by
     rcases List.mem_append.mp hx with hx | hx
     ·rcases List.mem_append.mp hx with hx | hx
      ·rcases List.mem_append.mp hx with hx | hx
       ·exact hfs x hx
       ·rw[(List.mem_replicate.mp hx).2];exact lw0n.no
      ·rw[(List.mem_replicate.mp hx).2];exact e_no
     ·rw[(List.mem_replicate.mp hx).2];exact fw0n.no,by simp;omega⟩
    have okl:∀ w∈ws++List.replicate m lw0,g.rs.okW w:=fun w hw=>(List.mem_append.mp hw).elim (okw w) fun h=>by rw[(List.mem_replicate.mp h).2];exact lok
    have hrefB:∀ HK:Hp,Ref HK (.str (Str.join ⟨#[10]⟩ (fs++List.replicate m (lnW lw0)++List.replicate b ⟨#[]⟩++List.replicate (d+1) (lnW fw0)))) (fs.length+m+b):=fun HK=>by
     have:=jb0 (H:=HK) (l:=lnW fw0) (A:=fs++List.replicate m (lnW lw0)++List.replicate b ⟨#[]⟩) (B:=List.replicate d (lnW fw0)) (ws:=ws++List.replicate m lw0) hall.len (by rw[hall.sp,List.replicate_succ];simp) hok okl (by rw[List.length_append,List.length_replicate];omega) (by rw[j8r,jf8,List.append_nil];exact fa) fw0n.2.1 (.inr ⟨by rw[List.length_append,List.length_replicate];omega,fw0,rfl,fok⟩)
     rwa [show (fs++List.replicate m (lnW lw0)++List.replicate b (⟨#[]⟩:Str)).length=fs.length+m+b by simp;omega] at this
    walk_at "v"
    try rw[nl]
    refine j3g qJ hall.ok ?_
    walk_at "v"
    rw[show (fs.length:Int)+(m:Nat)+(b:Nat)=((fs.length+m+b:Nat):Int) by omega]
    refine⟨_,_,rfl,hrefB _,fun HK eK=>?_⟩
    have eCK:=eCG.tr (eGJ.tr eK)
    walk_at "v"
    refine j26 (eCK _ _ wqC) hlast ?_
    walk_at "v"
    intro lL HL nL qL eL
    walk_at "v"
    refine j10 ((eGJ.tr (eK.tr eL)) _ _ q7G) ?_
    rw[List.length_map,List.length_replicate]
    walk_at "v"
    refine j3y qL (by omega) (by omega) fun lM HM nM qM eM=>?_
    rw[Int.toNat_natCast] at qM
    have eCM:=eCK.tr (eL.tr eM)
    walk_at "v"
    refine j0r (eCM _ _ wqC) qM (by rw[List.length_replicate];omega) fun lN HN nN qN eN=>?_
    have eCN:=eCM.tr eN
    walk_at "v"
    intro tO HO nO qO eO
    have eCO:=eCN.tr eO
    walk_at "v"
    refine j0r (eCO _ _ qfC) ((eGJ.tr (eK.tr (eL.tr (eM.tr (eN.tr eO))))) _ _ q7G) (by simp;omega) fun lP HP nP qP eP=>?_
    rw[← List.map_append] at qP
    have hal2:Lns (fs++List.replicate m (lnW lw0)):=⟨by simp[nefs],fun x hx=>by
     rcases List.mem_append.mp hx with hx | hx
     ·exact hfs x hx
     ·rw[(List.mem_replicate.mp hx).2];exact lw0n.no,by simp;omega⟩
    walk_at "v"
    try rw[nl]
    refine j3g qP hal2.ok ?_
    walk_at "v"
    refine⟨_,rfl,.inl ⟨_,g,ws++List.replicate m lw0,rfl,hal2.len,hok,okl,by rw[List.length_append,List.length_replicate];omega,by rw[hal2.sp];exact fa,fun tQ qQ lQ wvQ HQ qtQ qqQ nQ qlQ aQ eQ=>?_⟩⟩
    have eOQ:=eP.tr eQ
    obtain⟨gq1,gq2⟩:=jm7 hok okl
    walk_at "v"
    refine j4y (d:=G83.gd g (ws++List.replicate m lw0)) (j8u hok qtQ qqQ qlQ aQ) (j8u hok (eOQ _ _ qO) ((eCO.tr eOQ) _ _ hpC) ((eO.tr eOQ) _ _ qN) (AllW.app (waC.mono fun _ _ z=>(eCO.tr eOQ) _ _ z) (AllW.rpl (W83.mono (fun _ _ z=>(eCO.tr eOQ) _ _ z) lat) m))) gq1 gq2 fun HR eR=>?_
    repeat (first | exact hK _ _ ⟨⟨_,_,_,_,_,_,_,_,rfl⟩,stay _ (eC.tr (eCO.tr (eOQ.tr eR)))⟩ | walk_at "vs")
  ·rintro σ' HC ⟨⟨u1,u2,u3,u4,u5,u6,u7,u8,rfl⟩,x5C⟩
   walk_at "v"
   refine⟨rfl,fun HD eD=>?_⟩
   have x5D:=x5C.tr eD
   walk_at "v"
   try rw[nl]
   refine j3g (x5D _ _ q5) lfs.ok ?_
   walk_at "v"
   refine⟨_,rfl,.inl ⟨_,g,ws,rfl,lfs.len,hok,okw,by omega,by rw[lfs.sp];exact hfl5,fun tE qE lE wvE HE qtE qqE nE qlE aE eE=>?_⟩⟩
   have x5E:=x5D.tr eE
   walk_at "v"
   intro tF HF nF qF eF
   walk_at "v"
   refine j4y (d:=g.gd ws) (j8u hok (eF _ _ qtE) (eF _ _ qqE) (eF _ _ qlE) (aE.mono fun _ _ z=>eF _ _ z)) (j8u hok qF ((x5E.tr eF) _ _ hp5) ((x5E.tr eF) _ _ wq5) (wa5.mono fun _ _ z=>(x5E.tr eF) _ _ z)) gp1 gp2 fun HG eG=>?_
   exact hq HG
end
end Q
theorem PySem.Challenge.cw_lateknow_k82_game_refused_holds : PySem.Challenge.rw_lateknow_k82_game_refused.Holds :=
 PySem.Challenge.cw_lateknow_k82_game_refused_pre (fun K=>Q.sp_law K) (fun K H a ns hl hb hS=>⟨a,ns,rfl,hS,hl,hb,fun _=>rfl⟩) (fun w K mg a base T=>Q.ok_law T)
