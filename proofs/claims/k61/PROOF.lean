import PyProof.Rows.All
import Wide.All
import OpenK.AllK
import Wide.FinOn
import Lean
import PyProof.EqAt
import PyProof.EqKinds
import PyProof.TupleCall
import PyProof.ExcClass3
import PyProof.InstStoreFacts
import PyProof.RulesAs
import PyProof.NsDelKeeps
import PyProof.ExcArgsOwn
import PyProof.ExcAttrAll.ValueError
import PyProof.ExcBaseAll.ValueError
import PySem.Challenge.RW_lateknow_k61_way_price
set_option Elab.async false
set_option linter.all false
set_option maxRecDepth 100000
set_option maxHeartbeats 4000000
set_option Elab.async false
set_option linter.all false
set_option maxRecDepth 100000
namespace L2
open PySem PySem.Spec PyProof.Rows
abbrev Key := Sum Int Str
def keyIs : Key → Value → Bool
  | .inl k, v => Value.isInt k v
  | .inr x, v => Value.isStrOf x v
def keyH (w : World) : Key → Int
  | .inl k => hashInt k
  | .inr x => hashStr w x
theorem keyIs_shape : ∀ {k : Key} {v : Value}, keyIs k v = true → (∃ i t, k = Sum.inl i ∧ v = Value.int i t) ∨ (∃ x t, k = Sum.inr x ∧ v = Value.str x t)
  | .inl i, v, h => by
    obtain ⟨t, e⟩ := Value.isInt_shape (k := i) (v := v) h
    exact .inl ⟨i, t, rfl, e⟩
  | .inr x, v, h => by
    obtain ⟨t, e⟩ := Value.isStrOf_shape (x := x) (v := v) h
    exact .inr ⟨x, t, rfl, e⟩
theorem key_ll (a b : Int) : decide ((Sum.inl a : Key) = Sum.inl b) = (a == b) := by
  by_cases e : a = b
  · subst e; simp
  · have h : ¬ (Sum.inl a : Key) = Sum.inl b := fun q => e (Sum.inl.inj q)
    rw [decide_eq_false h]
    exact (beq_eq_false_iff_ne.mpr e).symm
theorem key_rr (a b : Str) : decide ((Sum.inr a : Key) = Sum.inr b) = decide (a = b) := by
  by_cases e : a = b
  · subst e; simp
  · have h : ¬ (Sum.inr a : Key) = Sum.inr b := fun q => e (Sum.inr.inj q)
    rw [decide_eq_false h, decide_eq_false e]
theorem key_lr (a : Int) (b : Str) : decide ((Sum.inl a : Key) = Sum.inr b) = false := decide_eq_false (fun q => nomatch q)
theorem key_rl (a : Str) (b : Int) : decide ((Sum.inr a : Key) = Sum.inl b) = false := decide_eq_false (fun q => nomatch q)
def mixKind (prog : Program) (w : World) : PySem.KeyKind prog w Key where
  is := keyIs
  hash := keyH w
  inj := fun v a b ha hb => by
    rcases keyIs_shape ha with ⟨i, t, rfl, rfl⟩ | ⟨x, t, rfl, rfl⟩
    · rcases keyIs_shape hb with ⟨j, u, rfl, e⟩ | ⟨y, u, rfl, e⟩
      · injection e with e1 _; rw [e1]
      · exact nomatch e
    · rcases keyIs_shape hb with ⟨j, u, rfl, e⟩ | ⟨y, u, rfl, e⟩
      · exact nomatch e
      · injection e with e1 _; rw [e1]
  byValue := fun k v h => by
    rcases keyIs_shape h with ⟨i, t, rfl, rfl⟩ | ⟨x, t, rfl, rfl⟩ <;> rfl
  pyHash := fun hv h => by
    rcases keyIs_shape hv with ⟨i, t, rfl, rfl⟩ | ⟨x, t, rfl, rfl⟩
    · exact wpAny_pyHash_int h
    · exact wpAny_pyHash_str h
  eqBool := fun hu hv h => by
    rcases keyIs_shape hu with ⟨i, t, rfl, rfl⟩ | ⟨x, t, rfl, rfl⟩
    · rcases keyIs_shape hv with ⟨j, u, rfl, rfl⟩ | ⟨y, u, rfl, rfl⟩
      · rw [key_ll] at h; exact wpAny_eqBool_int h
      · rw [key_lr] at h; exact SeqAt.EqAt.int_str i t y u _ _ _ _ h
    · rcases keyIs_shape hv with ⟨j, u, rfl, rfl⟩ | ⟨y, u, rfl, rfl⟩
      · rw [key_rl] at h; exact SeqAt.EqAt.str_int x t j u _ _ _ _ h
      · rw [key_rr] at h; exact wpAny_eqBool_str h
  «strs» := fun k x t v h => by
    rcases keyIs_shape h with ⟨i, u, rfl, e⟩ | ⟨y, u, rfl, e⟩
    · exact nomatch e
    · injection e with e1 _
      subst e1
      cases v <;> rfl
inductive V where
  | non | bl (b : Bool) | int (i : Int) | str (x : Str) | byt (b : Array UInt8) | flt (b : UInt64) | ref (a : Addr) | ty (n : String)
  deriving DecidableEq
def RelV : V → Value → Prop
  | .non, u => u = Value.none
  | .bl b, u => u = Value.bool b
  | .int i, u => ∃ t, u = Value.int i t
  | .str x, u => ∃ t, u = Value.str x t
  | .byt b, u => ∃ t, u = Value.bytes b t
  | .flt b, u => ∃ t, u = Value.float b t
  | .ref a, u => u = Value.ref a
  | .ty n, u => u = Value.type n
abbrev Vals : List V → List Value → Prop := Paired RelV
theorem Vals.length {xs : List V} {us : List Value} (r : Vals xs us) : xs.length = us.length := Paired.length r
theorem Vals.get : ∀ {xs : List V} {us : List Value} {i : Nat} {x : V}, Vals xs us → xs[i]? = some x → ∃ u, us[i]? = some u ∧ RelV x u
  | _, _, _, _, .nil, e => by simp at e
  | _, _, 0, _, .cons r _, e => by simp at e; subst e; exact ⟨_, rfl, r⟩
  | _, _, i + 1, x, .cons _ t, e => by
    obtain ⟨u, h1, h2⟩ := Vals.get (i := i) (x := x) t (by simpa using e)
    exact ⟨u, by simpa using h1, h2⟩
theorem Vals.append : ∀ {xs ys : List V} {us ws : List Value}, Vals xs us → Vals ys ws → Vals (xs ++ ys) (us ++ ws)
  | _, _, _, _, .nil, s => s
  | _, _, _, _, .cons r t, s => .cons r (Vals.append t s)
theorem Vals.take : ∀ {xs : List V} {us : List Value} (n : Nat), Vals xs us → Vals (xs.take n) (us.take n)
  | _, _, 0, _ => .nil
  | _, _, _ + 1, .nil => .nil
  | _, _, n + 1, .cons r t => .cons r (Vals.take n t)
theorem Vals.drop : ∀ {xs : List V} {us : List Value} (n : Nat), Vals xs us → Vals (xs.drop n) (us.drop n)
  | _, _, 0, r => r
  | _, _, _ + 1, .nil => .nil
  | _, _, n + 1, .cons _ t => Vals.drop n t
def RelO : Option V → Option Value → Prop
  | some v, some u => RelV v u
  | none, none => True
  | _, _ => False
def KV {κ : Type} : List (κ × V) → List (κ × Value) → Prop := Paired fun (p : κ × V) (q : κ × Value) => p.1 = q.1 ∧ RelV p.2 q.2
def kV : Key → V
  | .inl i => .int i
  | .inr x => .str x
def TupN (h : Heap) (a : Addr) (xs : Array Value) : Prop := IsTup h a xs ∧ ∃ o, h.get? a = some o ∧ o.dict = none
theorem TupN.new (h : Heap) (xs : Array Value) : TupN (h.push { cls := .type "tuple", data := .seq xs }) h.objs.size xs := ⟨IsTup.new _ _, _, Heap.get?_push_size _ rfl, rfl⟩
inductive HO where
    | lst (xs : List V)
    | tup (xs : List V)
    | dK (kvs : List (Key × V)) | dT (kvs : List (List Key × V))
    | set (S : Int → Bool) (n : Nat)
    | ins (C dx : Addr) (fs : List (Str × V))
    | own (x : Addr)
    | xd (fs : List (Str × V))
    | met (f x : Addr)
    | rng (lo hi : Int)
    | frz (o : Obj) (u : HO)
    | tbl (ps : Array Value)
    | ext (φ : Heap → Prop)
abbrev Hp := Addr → Option HO
def upd (H : Hp) (a : Addr) (o : HO) : Hp := fun b => if b = a then some o else H b
theorem upd_same {H : Hp} {a : Addr} {o : HO} : upd H a o a = some o := by unfold upd; rw [if_pos rfl]
theorem upd_ne {H : Hp} {a b : Addr} {o : HO} (h : b ≠ a) : upd H a o b = H b := by unfold upd; rw [if_neg h]
theorem upd_upd {H : Hp} {a : Addr} {o u : HO} : upd (upd H a o) a u = upd H a u := by
  funext b; unfold upd; split <;> rfl
theorem ne_of {H : Hp} {a b : Addr} {o u : HO} (h : H a = some o) (h' : H b = some u) (d : o ≠ u) : a ≠ b := by
  intro e; subst e; rw [h] at h'; exact d (Option.some.inj h')
theorem ne_of_none {H : Hp} {a b : Addr} {o : HO} (h : H a = some o) (h' : H b = none) : a ≠ b := by
  intro e; subst e; rw [h] at h'; cases h'
section
variable (P : Program) (w : World)
def ObjOk (H : Hp) (h : Heap) (a : Addr) : HO → Prop
  | .lst xs => xs.length ≤ sizeLine ∧ ∃ (its : List Value) (n : Nat), Vals xs its ∧ h.get? a = some { cls := .type "list", data := .seq its.toArray n }
  | .tup xs => xs.length ≤ sizeLine ∧ ∃ its : List Value, Vals xs its ∧ TupN h a its.toArray
  | .dK kvs => kvs.length ≤ sizeLine ∧ (a == sysModules) = false ∧ ∃ vs, KV kvs vs ∧ h.DictOf (mixKind P w) a vs
  | .dT kvs => kvs.length ≤ sizeLine ∧ (a == sysModules) = false ∧ ∃ xs : List (List Key × Addr × Value),
      Paired (fun (p : List Key × V) (q : List Key × Addr × Value) => p.1 = q.1 ∧ H q.2.1 = some (.tup (p.1.map kV)) ∧ RelV p.2 q.2.2) kvs xs ∧
      ∃ o es ep, h.get? a = some o ∧ o.ExactDict ∧ o.data = .dict es ep ∧ es.toList = xs.map (entryOfKey (tupleKind (mixKind P w))) ∧ (xs.map (·.1)).Nodup
  | .set S n => h.SetOf (intKind P w) a S n
  | .ins C dx fs => H dx = some (.own a) ∧ fs.length ≤ 1000 ∧ dx ≠ a ∧ h.get? a = some (PySem.W.instObj C dx) ∧
      ∃ mA, h.Ns1 dx mA ∧ (∀ f, RelO (fs.lookup f) (mA f)) ∧ PySem.Within mA (fs.map (·.1))
  | .own _ => ∃ o, h.get? a = some o
  | .xd fs => ∃ mA, h.Ns1 a mA ∧ ∀ f, RelO (fs.lookup f) (mA f)
  | .rng lo hi => ∃ t u v, h.get? a = some { cls := .type "range", data := .fields #[.int lo t, .int hi u, .int 1 v] }
  | .frz o u => h.get? a = some o ∧ ObjOk H h a u
  | .tbl ps => h.get? a = some { cls := .none, data := .fields ps }
  | .met f x => h.get? a = some (PySem.W.methodObj (.ref f) (.ref x))
  | .ext φ => φ h ∧ (∃ o, h.get? a = some o) ∧ ∀ h1 h2 : Heap, φ h1 → (∀ o, h1.get? a = some o → h2.get? a = some o) → φ h2
def HOk (H : Hp) (h : Heap) : Prop := ∀ a o, H a = some o → ObjOk P w H h a o
end
section
variable {P : Program} {w : World} {H H' : Hp} {h h' : Heap} {a : Addr} {o : HO}
theorem ObjOk.lt (x : ObjOk P w H h a o) : a < h.objs.size := by
  cases o with
  | lst xs => obtain ⟨_, _, _, _, e⟩ := x; exact Heap.lt_size e
  | tup xs => obtain ⟨_, _, _, p⟩ := x; exact p.1.lt
  | dK kvs => obtain ⟨_, _, _, _, o, _, _, e, _⟩ := x; exact Heap.lt_size e
  | dT kvs => obtain ⟨_, _, _, _, o, _, _, e, _⟩ := x; exact Heap.lt_size e
  | set S n => obtain ⟨o, _, _, _, e, _⟩ := x; exact Heap.lt_size e
  | ins C dx fs => obtain ⟨_, _, _, e, _⟩ := x; exact Heap.lt_size e
  | own y => obtain ⟨_, e⟩ := x; exact Heap.lt_size e
  | xd fs => obtain ⟨_, ⟨_, _, _, e, _⟩, _⟩ := x; exact Heap.lt_size e
  | rng lo hi => obtain ⟨_, _, _, e⟩ := x; exact Heap.lt_size e
  | frz ob u => obtain ⟨e, _⟩ := x; exact Heap.lt_size e
  | tbl ps => exact Heap.lt_size (show h.get? a = some _ from x)
  | met f y => exact Heap.lt_size (show h.get? a = some _ from x)
  | ext φ => obtain ⟨_, ⟨_, e⟩, _⟩ := x; exact Heap.lt_size e
theorem Paired.mapP {α β : Type} {F G : α → β → Prop} : ∀ {l₁ : List α} {l₂ : List β}, Paired F l₁ l₂ → (∀ a b, F a b → G a b) → Paired G l₁ l₂
  | _, _, .nil, _ => .nil
  | _, _, .cons r t, f => .cons (f _ _ r) (Paired.mapP t f)
theorem ObjOk.stay (x : ObjOk P w H h a o) (k : ∀ b u, (b = a ∨ H b = some (.own a)) → h.get? b = some u → h'.get? b = some u)
    (ho : ∀ b, H b = some (.own a) → H' b = some (.own a)) (ht : ∀ b xs, H b = some (.tup xs) → H' b = some (.tup xs)) : ObjOk P w H' h' a o := by
  induction o with
  | lst xs => obtain ⟨z, its, n, r, e⟩ := x; exact ⟨z, its, n, r, k _ _ (.inl rfl) e⟩
  | tup xs => obtain ⟨z, its, r, ⟨ob, e, c⟩, od, f, d⟩ := x; exact ⟨z, its, r, ⟨ob, k _ _ (.inl rfl) e, c⟩, od, k _ _ (.inl rfl) f, d⟩
  | dK kvs => obtain ⟨z, y, vs, r, ob, es, ep, e, c⟩ := x; exact ⟨z, y, vs, r, ob, es, ep, k _ _ (.inl rfl) e, c⟩
  | dT kvs =>
    obtain ⟨z, y, xs, r, ob, es, ep, e, c⟩ := x
    exact ⟨z, y, xs, Paired.mapP r fun p q z => ⟨z.1, ht _ _ z.2.1, z.2.2⟩, ob, es, ep, k _ _ (.inl rfl) e, c⟩
  | set S n => obtain ⟨ob, es, ep, t, e, c⟩ := x; exact ⟨ob, es, ep, t, k _ _ (.inl rfl) e, c⟩
  | ins C dx fs =>
    obtain ⟨d, z, ne, e, mA, ⟨od, es, ep, e2, c⟩, r⟩ := x
    exact ⟨ho _ d, z, ne, k _ _ (.inl rfl) e, mA, ⟨od, es, ep, k _ _ (.inr d) e2, c⟩, r⟩
  | own y => obtain ⟨ob, e⟩ := x; exact ⟨ob, k _ _ (.inl rfl) e⟩
  | xd fs => obtain ⟨mA, ⟨od, es, ep, e, c⟩, r⟩ := x; exact ⟨mA, ⟨od, es, ep, k _ _ (.inl rfl) e, c⟩, r⟩
  | rng lo hi => obtain ⟨t, u, v, e⟩ := x; exact ⟨t, u, v, k _ _ (.inl rfl) e⟩
  | frz ob u ih => obtain ⟨e, q⟩ := x; exact ⟨k _ _ (.inl rfl) e, ih q⟩
  | tbl ps =>
    have e : h.get? a = some { cls := .none, data := .fields ps } := x
    show h'.get? a = some { cls := .none, data := .fields ps }
    exact k a _ (.inl rfl) e
  | met f y =>
    have e : h.get? a = some (PySem.W.methodObj (.ref f) (.ref y)) := x
    show h'.get? a = some (PySem.W.methodObj (.ref f) (.ref y))
    exact k a _ (.inl rfl) e
  | ext φ => obtain ⟨p, ⟨o, e⟩, st⟩ := x; exact ⟨st _ _ p fun o q => k _ _ (.inl rfl) q, ⟨o, k _ _ (.inl rfl) e⟩, st⟩
theorem HOk.lt (x : HOk P w H h) (e : H a = some o) : a < h.objs.size := (x a o e).lt
theorem HOk.fresh (x : HOk P w H h) (e : h.objs.size ≤ a) : H a = none := by
  cases q : H a with
  | none => rfl
  | some u => exact absurd (Nat.lt_of_lt_of_le (x.lt q) e) (Nat.lt_irrefl _)
theorem HOk.kept (x : HOk P w H h) (k : ∀ b u, h.get? b = some u → h'.get? b = some u) : HOk P w H h' := fun a o e =>
  (x a o e).stay (fun b u _ q => k b u q) (fun _ q => q) fun _ _ q => q
theorem HOk.laid (x : HOk P w H h) (k : ∀ b u, h.get? b = some u → h'.get? b = some u) (hp : h.objs.size ≤ a) (new : ObjOk P w (upd H a o) h' a o) : HOk P w (upd H a o) h' := fun b u e => by
  have hn := x.fresh hp
  by_cases hb : b = a
  · subst hb; rw [upd_same] at e; cases e; exact new
  · rw [upd_ne hb] at e
    exact (x b u e).stay (fun c v _ q => k c v q) (fun c q => by rw [upd_ne (ne_of_none q hn)]; exact q) fun c xs q => by rw [upd_ne (ne_of_none q hn)]; exact q
end
def Rd (H : Hp) (a : Addr) (u : HO) : Prop := H a = some u ∨ ∃ o, H a = some (.frz o u)
theorem Rd.ok {P : Program} {w : World} {H : Hp} {h : Heap} {a : Addr} {u : HO} (r : Rd H a u) (x : HOk P w H h) : ObjOk P w H h a u := by
  rcases r with r | ⟨o, r⟩
  · exact x a u r
  · obtain ⟨_, q⟩ := x a _ r
    exact q
def Mut : Option HO → Prop
  | some (.lst _) => True
  | some (.dK _) => True
  | some (.dT _) => True
  | some (.set _ _) => True
  | some (.ins _ _ _) => True
  | some (.ext _) => True
  | _ => False
section
variable {P : Program} {w : World} {H : Hp} {h h' : Heap} {x e : Addr} {o' : HO}
theorem HOk.write (ok : HOk P w H h) (mu : Mut (H x)) (he : e = x ∨ H e = some (.own x)) (k : ∀ b u, b ≠ e → h.get? b = some u → h'.get? b = some u) (heo : ∃ u, h'.get? e = some u)
    (new : ObjOk P w (upd H x o') h' x o') : HOk P w (upd H x o') h' := fun b u q => by
  have nown : ∀ c y, H c = some (.own y) → c ≠ x := fun c y r z => by subst z; rw [r] at mu; exact mu
  have ntup : ∀ c xs, H c = some (.tup xs) → c ≠ x := fun c xs r z => by subst z; rw [r] at mu; exact mu
  by_cases hb : b = x
  · subst hb; rw [upd_same] at q; cases q; exact new
  · rw [upd_ne hb] at q
    by_cases hbe : b = e
    · have q' : H b = some (.own x) := by
        rcases he with z | z
        · exact absurd (hbe.trans z) hb
        · rw [hbe]; exact z
      rw [q] at q'; cases q'
      obtain ⟨v, hv⟩ := heo
      exact ⟨v, by rw [hbe]; exact hv⟩
    · refine (ok b u q).stay (fun c v hc r => k c v ?_ r) (fun c r => by rw [upd_ne (nown c b r)]; exact r) fun c xs r => by rw [upd_ne (ntup c xs r)]; exact r
      rcases hc with rfl | hc
      · exact hbe
      · rintro rfl
        rcases he with z | z
        · exact nown c b hc z
        · rw [hc] at z; cases z; exact hb rfl
end
structure Un (fs ex : List Addr) (H H' : Hp) (h h' : Heap) : Prop where
  keep : ∀ b o, h.get? b = some o → H b = none → b ∉ fs → b ∉ ex → h'.get? b = some o
  slot : ∀ b o, h.get? b = some o → H b = none → b ∈ fs → b ∉ ex → ∃ sl, h'.get? b = some { o with slots := sl }
  free : ∀ b o, h.get? b = some o → H b = none → b ∉ ex → H' b = none
  there : ∀ b o, h.get? b = some o → b ∉ ex → ∃ o', h'.get? b = some o'
  tups : ∀ b xs, H b = some (.tup xs) → H' b = some (.tup xs)
  frzs : ∀ b o u, H b = some (.frz o u) → H' b = some (.frz o u)
  tbls : ∀ b ps, H b = some (.tbl ps) → ∃ more, H' b = some (.tbl (ps ++ more))
section
variable {fs fs' ex ex' : List Addr} {H H1 H2 : Hp} {h h1 h2 h' : Heap} {a x e : Addr} {o : HO}
theorem Un.any (u : Un fs ex H H1 h h1) {b : Addr} {ob : Obj} (q : h.get? b = some ob) (n : H b = none) (hx : b ∉ ex) : ∃ sl, h1.get? b = some { ob with slots := sl } := by
  by_cases hb : b ∈ fs
  · exact u.slot b ob q n hb hx
  · exact ⟨ob.slots, u.keep b ob q n hb hx⟩
theorem Un.kept (k : ∀ b u, h.get? b = some u → h'.get? b = some u) : Un fs ex H H h h' :=
  ⟨fun b ob q _ _ _ => k b ob q, fun b ob q _ _ _ => ⟨ob.slots, k b ob q⟩, fun _ _ _ n _ => n, fun b ob q _ => ⟨ob, k b ob q⟩, fun _ _ q => q, fun _ _ _ q => q, fun _ ps q => ⟨#[], by rw [q]; simp⟩⟩
theorem Un.refl : Un fs ex H H h h := Un.kept fun _ _ q => q
theorem Un.laid (k : ∀ b u, h.get? b = some u → h'.get? b = some u) (hp : h.objs.size ≤ a) (hn : H a = none) : Un fs ex H (upd H a o) h h' where
  keep := fun b u q _ _ _ => k b u q
  slot := fun b u q _ _ _ => ⟨u.slots, k b u q⟩
  free := fun b u q n _ => by rw [upd_ne (Nat.ne_of_lt (Nat.lt_of_lt_of_le (Heap.lt_size q) hp))]; exact n
  there := fun b u q _ => ⟨u, k b u q⟩
  tups := fun b xs q => by rw [upd_ne (ne_of_none q hn)]; exact q
  frzs := fun b u xs q => by rw [upd_ne (ne_of_none q hn)]; exact q
  tbls := fun b ps q => ⟨#[], by rw [upd_ne (ne_of_none q hn), q]; simp⟩
theorem Un.write (mu : Mut (H x)) (he : e = x ∨ H e = some (.own x)) (k : ∀ b u, b ≠ e → h.get? b = some u → h'.get? b = some u) (heo : ∃ u, h'.get? e = some u) : Un fs ex H (upd H x o) h h' := by
  have hx : ∀ b, H b = none → b ≠ x := fun b n z => by subst z; rw [n] at mu; exact mu
  have hb : ∀ b, H b = none → b ≠ e := fun b n z => by
    subst z
    rcases he with r | r
    · exact hx b n r
    · rw [n] at r; cases r
  have hm : ∀ b u, H b = some u → ¬ Mut (some u) → b ≠ x := fun b u q nm z => by subst z; rw [q] at mu; exact nm mu
  refine ⟨fun b u q n _ _ => k b u (hb b n) q, fun b u q n _ _ => ⟨u.slots, k b u (hb b n) q⟩, fun b u q n _ => by rw [upd_ne (hx b n)]; exact n, fun b u q _ => ?_,
    fun b xs q => by rw [upd_ne (hm b _ q fun z => z)]; exact q, fun b u xs q => by rw [upd_ne (hm b _ q fun z => z)]; exact q, fun b ps q => ⟨#[], by rw [upd_ne (hm b _ q fun z => z), q]; simp⟩⟩
  by_cases hbe : b = e
  · subst hbe; exact heo
  · exact ⟨u, k b u hbe q⟩
end
def trk (h : Heap) (H : Hp) : List Addr := (List.range h.objs.size).filter fun a => (H a).isSome
def hidT (h : Heap) (H : Hp) : Heap := PySem.W.hideAll h (trk h H)
theorem hidT_size (h : Heap) (H : Hp) : (hidT h H).objs.size = h.objs.size := PySem.W.hideAll_size _ _
theorem hidT_get {h : Heap} {H : Hp} {b : Addr} {o : Obj} (e : h.get? b = some o) (n : H b = none) : (hidT h H).get? b = some o :=
  PySem.W.hideAll_get _ e fun hm => by
    have q : (H b).isSome = true := (List.mem_filter.mp hm).2
    rw [n] at q; simp at q
theorem of_hidT {h : Heap} {H : Hp} {b : Addr} {o : Obj} (e : (hidT h H).get? b = some o) : h.get? b = some o ∧ H b = none := by
  have e' : h.get? b = some o := PySem.W.of_hideAll (trk h H) e
  refine ⟨e', ?_⟩
  cases q : H b with
  | none => rfl
  | some x =>
    have hm : b ∈ trk h H := List.mem_filter.mpr ⟨List.mem_range.mpr (Heap.lt_size e'), by simp [q]⟩
    have z : (hidT h H).get? b = none := PySem.W.hideAll_none (trk h H) hm
    rw [z] at e; cases e
def allNews (g h : Heap) (L : Addr) : List (Addr × Obj) := (List.range h.objs.size).filterMap fun a => if a = L ∨ (g.get? a).isSome = true then none else (h.get? a).map fun o => (a, o)
def rest (g h : Heap) (L d : Addr) : List (Addr × Obj) := (allNews g h L).filter fun p => decide (p.1 ≠ d)
structure Mod (K : PySem.W.Frag) (mg : Str → Option Value) (base : Heap) : Prop where
  kin : K.In base
  glob : base.Ns mainGlobals mg
  blt : ∃ mb, base.Ns builtinsNs mb ∧ ∀ x : Str, x ≠ "__name__" → mb x = bootBuiltins x
  nolimit : base.NoLimit
  bmain : ∃ bm ob, mg "__builtins__" = some (.ref bm) ∧ bm ≠ builtinsNs ∧ base.get? bm = some ob ∧ ob.cls = .type "module" ∧ ob.dict = some builtinsNs ∧ ob.data = .plain
structure Cx where
  prog : Program
  w : World
  K : PySem.W.Frag
  mg : Str → Option Value
  base : Heap
  A : Around
  N : List Str
  s₀ : Shared
  H₀ : Hp
  env : Env
  outer : List Env
  stack : List Env
  ex : List Addr
  fn : Str → Bool
  calm : Bool
  pn : List (Addr × Obj)
  xe : Value → Shared → Prop
def frs (l : List Env) : List Addr := l.filterMap (·.frame)
abbrev Cx.fs (X : Cx) : List Addr := frs X.outer
def Vis (sc : Scope) (x : Str) : Prop := sc.names.lookup x = some .local ∨ sc.names.lookup x = some .cell ∨ sc.names.lookup x = some .free
def Loc (sc : Scope) (x : Str) : Prop := sc.names.lookup x = some .local ∨ sc.names.lookup x = some .cell
def Look (env : Env) (h : Heap) (m : Str → Option Value) (x : Str) (u : Value) : Prop :=
  (env.kindOf x = some .local ∧ m x = some u) ∨ ((env.kindOf x = some .cell ∨ env.kindOf x = some .free) ∧ ∃ c, env.cells.lookup x = some c ∧ h.IsCell c (some u))
structure Cx.Ok (X : Cx) : Prop where
  mod : Mod X.K X.mg X.base
  kind : X.env.scope.kind = .function
  glob : X.env.globals = mainGlobals
  blt : X.env.builtins = builtinsNs
  above : X.s₀.heap.objs.size ≤ X.env.locals
  inj : ∀ x y c, X.env.cells.lookup x = some c → X.env.cells.lookup y = some c → x = y
  has : ∀ x, (X.env.kindOf x = some .cell ∨ X.env.kindOf x = some .free) → ∃ c, X.env.cells.lookup x = some c
  cab : ∀ x c, X.fn x = true → X.env.cells.lookup x = some c → X.s₀.heap.objs.size ≤ c
  hd : X.calm = true → X.A.handled = none
  frames : X.A.frames = some X.stack
  stk : X.stack = X.outer ∨ (X.stack = X.env :: X.outer ∧ X.env.frame = some X.env.locals)
  exf : ∀ b ∈ X.ex, b ≠ X.env.locals ∧ ∀ x c, X.env.cells.lookup x = some c → c ≠ b
  bs : ∀ b o, X.base.get? b = some o → X.s₀.heap.get? b = some o ∧ X.H₀ b = none
  bsz : X.base.objs.size ≤ X.s₀.heap.objs.size
  noex : ∀ b o, X.base.get? b = some o → b ∉ X.ex
  exfs : ∀ b ∈ X.ex, b ∉ X.fs
  funs : X.s₀.heap.FunFrames X.base X.outer
  frf : ∀ b ∈ X.fs, X.H₀ b = none
structure Inv (X : Cx) (pins : List (Addr × Obj)) (σ : List (Option V)) (H : Hp) (s : Shared) : Prop where
  ok : X.Ok
  os : s.os = X.s₀.os
  bare : AllBare s.gens
  base : Un X.fs X.ex X.H₀ H X.s₀.heap s.heap
  loc : ∃ m, s.heap.Ns X.env.locals m ∧ ∀ (i : Nat) (x : Str) (v : V), X.N[i]? = some x → σ[i]? = some (some v) → Vis X.env.scope x → ∃ u, RelV v u ∧ Look X.env s.heap m x u
  cell : ∀ x c, X.env.cells.lookup x = some c → ∃ v, s.heap.IsCell c v
  free : H X.env.locals = none
  freeC : ∀ x c, X.env.cells.lookup x = some c → H c = none
  pin : ∀ p ∈ X.pn ++ pins, s.heap.get? p.1 = some p.2 ∧ H p.1 = none ∧ p.1 ≠ X.env.locals ∧ p.1 ∉ X.fs ∧ ∀ v, p.2.data ≠ .cell v
  hok : HOk X.prog X.w H s.heap
  len : σ.length = X.N.length
section
variable {X : Cx} {pins : List (Addr × Obj)} {σ : List (Option V)} {H H' : Hp} {s : Shared} {h' : Heap}
theorem Cx.Ok.nofr (ok : X.Ok) {b : Addr} {o : Obj} (e : X.base.get? b = some o) : b ∉ X.fs := fun hb => by
  have := (ok.funs.mem hb).1
  rw [e] at this; cases this
theorem Inv.bs (I : Inv X pins σ H s) : ∀ b o, X.base.get? b = some o → s.heap.get? b = some o ∧ H b = none := fun b o e =>
  ⟨I.base.keep b o (I.ok.bs b o e).1 (I.ok.bs b o e).2 (I.ok.nofr e) (I.ok.noex b o e), I.base.free b o (I.ok.bs b o e).1 (I.ok.bs b o e).2 (I.ok.noex b o e)⟩
theorem Inv.bk (I : Inv X pins σ H s) : ∀ b o, X.base.get? b = some o → s.heap.get? b = some o := fun b o e => (I.bs b o e).1
theorem Inv.mod (I : Inv X pins σ H s) : Mod X.K X.mg X.base := I.ok.mod
theorem Inv.kIn (I : Inv X pins σ H s) : X.K.In s.heap := I.ok.mod.kin.keeps I.bk
theorem Inv.lt (I : Inv X pins σ H s) : X.env.locals < s.heap.objs.size := let ⟨_, hn, _⟩ := I.loc; hn.lt
theorem Inv.sz (I : Inv X pins σ H s) : X.s₀.heap.objs.size ≤ s.heap.objs.size := Nat.le_trans I.ok.above (Nat.le_of_lt I.lt)
theorem Inv.nofs (I : Inv X pins σ H s) {a : Addr} (h : s.heap.objs.size ≤ a) : a ∉ X.fs := fun hb => by
  obtain ⟨_, o, ho, _⟩ := I.ok.funs.mem hb
  exact absurd (Nat.lt_of_lt_of_le (Heap.lt_size ho) (Nat.le_trans I.sz h)) (Nat.lt_irrefl _)
theorem Inv.cne (I : Inv X pins σ H s) : ∀ x c, X.env.cells.lookup x = some c → c ≠ X.env.locals := fun x c e z => by
  obtain ⟨v, o, ho, hd⟩ := I.cell x c e
  obtain ⟨m, ⟨o', es, ep, ho', hd', _⟩, _⟩ := I.loc
  rw [z, ho'] at ho; cases ho; rw [hd'] at hd; cases hd
theorem Inv.funs (I : Inv X pins σ H s) : s.heap.FunFrames X.base X.outer := by
  have all : ∀ (l : List Env), (∀ b ∈ frs l, b ∈ X.fs) → X.s₀.heap.FunFrames X.base l → s.heap.FunFrames X.base l := by
    intro l
    induction l with
    | nil => intro _ _; trivial
    | cons env r ih =>
      intro hs hl
      obtain ⟨hk, ⟨L, o, hf, hn, ho, hd⟩, hr⟩ := hl
      have hL : L ∈ X.fs := hs L (by unfold frs; rw [List.filterMap_cons, hf]; exact List.mem_cons_self)
      obtain ⟨sl, e⟩ := I.base.slot L o ho (I.ok.frf L hL) hL fun z => I.ok.exfs L z hL
      exact ⟨hk, ⟨L, _, hf, hn, e, hd⟩, ih (fun b hb => hs b (by unfold frs; rw [List.filterMap_cons, hf]; exact List.mem_cons_of_mem _ hb)) hr⟩
  exact all X.outer (fun _ hb => hb) I.ok.funs
theorem Inv.stack (I : Inv X pins σ H s) : s.heap.FunFrames X.base X.stack := by
  rcases I.ok.stk with e | ⟨e, hf⟩
  · rw [e]; exact I.funs
  · rw [e]
    obtain ⟨m, hn, _⟩ := I.loc
    refine .cons (by rw [I.ok.kind]; decide) hf hn ?_ I.funs
    exact Heap.get?_none_of_le (Nat.le_trans I.ok.bsz I.ok.above)
theorem Inv.stkSub (I : Inv X pins σ H s) : ∀ b ∈ frs X.stack, b ∈ X.env.locals :: X.fs := fun b hb => by
  rcases I.ok.stk with e | ⟨e, hf⟩
  · rw [e] at hb; exact List.mem_cons_of_mem _ hb
  · rw [e] at hb
    unfold frs at hb
    rw [List.filterMap_cons, hf] at hb
    exact hb
theorem Inv.stkFree (I : Inv X pins σ H s) : ∀ b ∈ frs X.stack, H b = none := fun b hb => by
  rcases List.mem_cons.mp (I.stkSub b hb) with e | hb
  · rw [e]; exact I.free
  · obtain ⟨_, o, ho, _⟩ := I.ok.funs.mem hb
    exact I.base.free b o ho (I.ok.frf b hb) fun z => I.ok.exfs b z hb
theorem Inv.step {g' : Array GenState} {t' : Nat} {d' : Drawn} {ch : List Addr} (I : Inv X pins σ H s)
    (hch : ∀ b ∈ ch, (b ∈ X.ex ∨ X.s₀.heap.objs.size ≤ b) ∧ b ≠ X.env.locals ∧ (∀ x c, X.env.cells.lookup x = some c → c ≠ b) ∧ ∀ p ∈ X.pn ++ pins, p.1 ≠ b)
    (keep : ∀ b o, b ≠ X.env.locals → b ∉ X.fs → b ∉ ch → s.heap.get? b = some o → H b = none → h'.get? b = some o)
    (slot : ∀ b o, b ≠ X.env.locals → b ∈ X.fs → b ∉ ch → s.heap.get? b = some o → H b = none → ∃ sl, h'.get? b = some { o with slots := sl }) (free : ∀ b o, b ∉ ch → s.heap.get? b = some o → H b = none → H' b = none)
    (there : ∀ b o, b ∉ ch → s.heap.get? b = some o → ∃ o', h'.get? b = some o')
    (tups : ∀ b xs, H b = some (.tup xs) → H' b = some (.tup xs)) (frzs : ∀ b o u, H b = some (.frz o u) → H' b = some (.frz o u)) (tbls : ∀ b ps, H b = some (.tbl ps) → ∃ more, H' b = some (.tbl (ps ++ more)))
    (ns : ∀ m, s.heap.Ns X.env.locals m → h'.Ns X.env.locals m) (hok : HOk X.prog X.w H' h') (hg : AllBare g') :
    Inv X pins σ H' { s with heap := h', gens := g', drawn := d', toks := t' } := by
  have neL : ∀ b o, X.s₀.heap.get? b = some o → b ≠ X.env.locals := fun b o e => Nat.ne_of_lt (Nat.lt_of_lt_of_le (Heap.lt_size e) I.ok.above)
  have neC : ∀ b o, X.s₀.heap.get? b = some o → b ∉ X.ex → b ∉ ch := fun b o e hx hb => by
    rcases (hch b hb).1 with z | z
    · exact hx z
    · exact absurd (Nat.lt_of_lt_of_le (Heap.lt_size e) z) (Nat.lt_irrefl _)
  have cellK : ∀ x c, X.env.cells.lookup x = some c → ∀ v, s.heap.IsCell c v → h'.IsCell c v := fun x c e v ⟨o, ho, hd⟩ => by
    have nch : c ∉ ch := fun z => (hch c z).2.2.1 x c e rfl
    by_cases hc : c ∈ X.fs
    · obtain ⟨sl, q⟩ := slot c o (I.cne x c e) hc nch ho (I.freeC x c e)
      exact ⟨_, q, hd⟩
    · exact ⟨o, keep c o (I.cne x c e) hc nch ho (I.freeC x c e), hd⟩
  refine ⟨I.ok, I.os, hg, ⟨fun b o e n hb hx => ?_, fun b o e n hb hx => ?_, fun b o e n hx => ?_, fun b o e hx => ?_, fun b xs e => tups b xs (I.base.tups b xs e), fun b o xs e => frzs b o xs (I.base.frzs b o xs e), fun b ps e => ?_⟩, ?_, fun x c e => ?_, ?_, fun x c e => ?_, fun p hp => ?_, hok, I.len⟩
  · exact keep b o (neL b o e) hb (neC b o e hx) (I.base.keep b o e n hb hx) (I.base.free b o e n hx)
  · obtain ⟨sl, e1⟩ := I.base.slot b o e n hb hx
    obtain ⟨sl', e2⟩ := slot b _ (neL b o e) hb (neC b o e hx) e1 (I.base.free b o e n hx)
    exact ⟨sl', e2⟩
  · obtain ⟨o', e1⟩ := I.base.there b o e hx
    exact free b o' (neC b o e hx) e1 (I.base.free b o e n hx)
  · obtain ⟨o', e1⟩ := I.base.there b o e hx
    exact there b o' (neC b o e hx) e1
  · obtain ⟨m1, e1⟩ := I.base.tbls b ps e
    obtain ⟨m2, e2⟩ := tbls b _ e1
    exact ⟨m1 ++ m2, by rw [e2, Array.append_assoc]⟩
  · obtain ⟨m, hn, hl⟩ := I.loc
    refine ⟨m, ns m hn, fun i x v e1 e2 e3 => ?_⟩
    obtain ⟨u, r, l⟩ := hl i x v e1 e2 e3
    refine ⟨u, r, ?_⟩
    rcases l with l | ⟨k, c, e, z⟩
    · exact .inl l
    · exact .inr ⟨k, c, e, cellK x c e _ z⟩
  · obtain ⟨v, z⟩ := I.cell x c e
    exact ⟨v, cellK x c e v z⟩
  · obtain ⟨m, ⟨o, _, _, ho, _⟩, _⟩ := I.loc
    exact free _ o (fun z => (hch _ z).2.1 rfl) ho I.free
  · obtain ⟨v, o, ho, hd⟩ := I.cell x c e
    exact free c o (fun z => (hch c z).2.2.1 x c e rfl) ho (I.freeC x c e)
  · obtain ⟨e, n, ne, nf, d⟩ := I.pin p hp
    have nch : p.1 ∉ ch := fun z => (hch p.1 z).2.2.2 p hp rfl
    exact ⟨keep p.1 p.2 ne nf nch e n, free p.1 p.2 nch e n, ne, nf, d⟩
theorem Inv.un {t' : Nat} (I : Inv X pins σ H s) (u : Un X.fs [] H H' s.heap h') (hok : HOk X.prog X.w H' h') : Inv X pins σ H' { s with heap := h', toks := t' } := by
  obtain ⟨m, ⟨o, es, ep, ho, r⟩, _⟩ := id I.loc
  obtain ⟨sl, hL⟩ := u.any ho I.free (by simp)
  exact I.step (g' := s.gens) (d' := s.drawn) (ch := []) (fun _ z => nomatch z) (fun b o _ hb _ e n => u.keep b o e n hb (by simp)) (fun b o _ hb _ e n => u.slot b o e n hb (by simp)) (fun b o _ e n => u.free b o e n (by simp)) (fun b o _ e => u.there b o e (by simp)) u.tups u.frzs u.tbls (fun m' hm => by
    obtain ⟨o', es', ep', ho', r'⟩ := hm
    rw [ho] at ho'; cases ho'
    exact ⟨_, es', ep', hL, r'⟩) hok I.bare
theorem Inv.call {g' : Array GenState} {t' : Nat} {d' : Drawn} {ch : List Addr} (I : Inv X pins σ H s) (u : Un (frs X.stack) ch H H' s.heap h') (hok : HOk X.prog X.w H' h') (hg : AllBare g')
    (hch : ∀ b ∈ ch, (b ∈ X.ex ∨ X.s₀.heap.objs.size ≤ b) ∧ b ≠ X.env.locals ∧ (∀ x c, X.env.cells.lookup x = some c → c ≠ b) ∧ ∀ p ∈ X.pn ++ pins, p.1 ≠ b) :
    Inv X pins σ H' { s with heap := h', gens := g', drawn := d', toks := t' } := by
  obtain ⟨m, ⟨o, es, ep, ho, r⟩, _⟩ := id I.loc
  obtain ⟨sl, hL⟩ := u.any ho I.free fun z => (hch _ z).2.1 rfl
  exact I.step (ch := ch) hch (fun b o hL hb hc e n => u.keep b o e n (fun z => (List.mem_cons.mp (I.stkSub b z)).elim hL hb) hc) (fun b o _ _ hc e n => u.any e n hc) (fun b o hc e n => u.free b o e n hc) (fun b o hc e => u.there b o e hc) u.tups u.frzs u.tbls (fun m' hm => by
    obtain ⟨o', es', ep', ho', r'⟩ := hm
    rw [ho] at ho'; cases ho'
    exact ⟨_, es', ep', hL, r'⟩) hok hg
theorem Inv.turned {t' : Nat} {it : Addr} (I : Inv X pins σ H s) (k : ∀ b o, b ≠ it → s.heap.get? b = some o → h'.get? b = some o) (hn : H it = none) (hL : it ≠ X.env.locals)
    (h1 : it ∈ X.ex ∨ X.s₀.heap.objs.size ≤ it) (h2 : ∀ x c, X.env.cells.lookup x = some c → c ≠ it) (h3 : ∀ p ∈ X.pn ++ pins, p.1 ≠ it) : Inv X pins σ H { s with heap := h', toks := t' } := by
  have nit : ∀ b u, H b = some u → b ≠ it := fun b u e z => by rw [z, hn] at e; cases e
  refine I.step (g' := s.gens) (d' := s.drawn) (ch := [it]) (fun b hb => ?_) (fun b o _ _ hc e _ => k b o (fun z => hc (by simp [z])) e) (fun b o _ _ hc e _ => ⟨o.slots, k b o (fun z => hc (by simp [z])) e⟩) (fun _ _ _ _ n => n)
    (fun b o hc e => ⟨o, k b o (fun z => hc (by simp [z])) e⟩) (fun _ _ e => e) (fun _ _ _ e => e) (fun b ps e => ⟨#[], by rw [e]; simp⟩) (fun m hm => ?_) (fun b u e => ?_) I.bare
  · have e : b = it := by simpa using hb
    subst e
    exact ⟨h1, hL, h2, h3⟩
  · obtain ⟨o, es, ep, ho, r⟩ := hm
    exact ⟨o, es, ep, k _ o (Ne.symm hL) ho, r⟩
  · refine (I.hok b u e).stay (fun c v hc q => k c v ?_ q) (fun _ q => q) fun _ _ q => q
    rcases hc with z | z
    · rw [z]; exact nit b u e
    · exact nit c _ z
theorem Inv.tok (I : Inv X pins σ H s) (t : Nat) : Inv X pins σ H { s with toks := t } := I.un (h' := s.heap) (t' := t) Un.refl I.hok
theorem Inv.kept {t' : Nat} (I : Inv X pins σ H s) (k : ∀ b u, s.heap.get? b = some u → h'.get? b = some u) : Inv X pins σ H { s with heap := h', toks := t' } := I.un (Un.kept k) (I.hok.kept k)
theorem Inv.laid {a : Addr} {o : HO} {t' : Nat} (I : Inv X pins σ H s) (k : ∀ b u, s.heap.get? b = some u → h'.get? b = some u) (hp : s.heap.objs.size ≤ a) (new : ObjOk X.prog X.w (upd H a o) h' a o) :
    Inv X pins σ (upd H a o) { s with heap := h', toks := t' } := I.un (Un.laid k hp (I.hok.fresh hp)) (I.hok.laid k hp new)
theorem Inv.write {x e : Addr} {o : HO} {t' : Nat} (I : Inv X pins σ H s) (mu : Mut (H x)) (he : e = x ∨ H e = some (.own x)) (k : ∀ b u, b ≠ e → s.heap.get? b = some u → h'.get? b = some u) (heo : ∃ u, h'.get? e = some u)
    (new : ObjOk X.prog X.w (upd H x o) h' x o) : Inv X pins σ (upd H x o) { s with heap := h', toks := t' } := I.un (Un.write mu he k heo) (I.hok.write mu he k heo new)
theorem Inv.pins_of {pins' : List (Addr × Obj)} (I : Inv X pins σ H s) (h : ∀ p ∈ pins', s.heap.get? p.1 = some p.2 ∧ H p.1 = none ∧ p.1 ≠ X.env.locals ∧ p.1 ∉ X.fs ∧ ∀ v, p.2.data ≠ .cell v) : Inv X pins' σ H s :=
  ⟨I.ok, I.os, I.bare, I.base, I.loc, I.cell, I.free, I.freeC, fun p hp => (List.mem_append.mp hp).elim (fun z => I.pin p (List.mem_append_left _ z)) (h p), I.hok, I.len⟩
theorem nodup_ix {N : List Str} (hN : N.Nodup) {i j : Nat} {x : Str} (a : N[i]? = some x) (b : N[j]? = some x) : i = j := by
  obtain ⟨h1, e1⟩ := List.getElem?_eq_some_iff.mp a
  obtain ⟨h2, e2⟩ := List.getElem?_eq_some_iff.mp b
  exact (List.getElem_inj hN).mp (e1.trans e2.symm)
theorem store_ok2 {M : Model} {A : Around} {E : Value → Shared → Prop} {i : Nat} {x : Str} {v : V} {u : Value} {Q : Unit → Shared → Prop} (I : Inv X pins σ H s) (hN : X.N.Nodup) (hi : X.N[i]? = some x) (hx : Loc X.env.scope x) (r : RelV v u)
    (h : ∀ s', Inv X pins (σ.set i (some v)) H s' → (∃ a, Heap.SameBut a s.heap s'.heap ∧ (a = X.env.locals ∨ X.env.cells.lookup x = some a)) → Q () s') (hf : X.fn x = true ∨ X.env.scope.names.lookup x = some .local := by first | exact .inl rfl | exact .inr rfl | assumption) : wpAny M A (storeName X.env x u) Q E s := by
  obtain ⟨m, hn, hl⟩ := id I.loc
  have hcls : (X.env.scope.kind == .class || (X.env.scope.kind == .module && X.env.locals != X.env.globals)) = false := by rw [I.ok.kind]; rfl
  have hiσ : i < σ.length := by rw [I.len]; exact (List.getElem?_eq_some_iff.mp hi).1
  have cne := I.cne
  have tracked : ∀ {a : Addr} {h' : Heap}, (∃ o, s.heap.get? a = some o ∧ H a = none) → Heap.SameBut a s.heap h' → HOk X.prog X.w H h' := fun {a h'} ha hs b ob e => by
    obtain ⟨_, _, hfree⟩ := ha
    refine (I.hok b ob e).stay (fun c w' hc q => (hs.2 c ?_).trans q) (fun _ q => q) fun _ _ q => q
    rintro rfl
    rcases hc with rfl | hc
    · rw [hfree] at e; cases e
    · rw [hfree] at hc; cases hc
  rcases hx with hk | hk
  · refine wpAny_storeName_local hk hn (fun h' hn' hs => ?_) hcls
    obtain ⟨oL, _, _, hoL, _⟩ := id hn
    refine h _ ⟨I.ok, I.os, I.bare, ⟨fun b o e n hb hx => ?_, fun b o e n hb hx => ?_, I.base.free, fun b o e hx => ?_, I.base.tups, I.base.frzs, I.base.tbls⟩, ⟨_, hn', fun j y v' e1 e2 e3 => ?_⟩, fun y c e => ?_, I.free, I.freeC, fun p hp => ?_, tracked ⟨oL, hoL, I.free⟩ hs, by simpa using I.len⟩ ⟨_, hs, .inl rfl⟩
    · exact (hs.2 b (Nat.ne_of_lt (Nat.lt_of_lt_of_le (Heap.lt_size e) I.ok.above))).trans (I.base.keep b o e n hb hx)
    · obtain ⟨sl, e1⟩ := I.base.slot b o e n hb hx
      exact ⟨sl, (hs.2 b (Nat.ne_of_lt (Nat.lt_of_lt_of_le (Heap.lt_size e) I.ok.above))).trans e1⟩
    · obtain ⟨o', e1⟩ := I.base.there b o e hx
      exact ⟨o', (hs.2 b (Nat.ne_of_lt (Nat.lt_of_lt_of_le (Heap.lt_size e) I.ok.above))).trans e1⟩
    · by_cases hj : j = i
      · subst hj
        rw [hi] at e1; cases e1
        rw [List.getElem?_set_self hiσ] at e2
        cases e2
        exact ⟨u, r, .inl ⟨hk, by simp⟩⟩
      · rw [List.getElem?_set_ne (Ne.symm hj)] at e2
        obtain ⟨u', r', q⟩ := hl j y v' e1 e2 e3
        refine ⟨u', r', ?_⟩
        rcases q with ⟨k, e⟩ | ⟨k, c, e, z⟩
        · refine .inl ⟨k, ?_⟩
          have : y ≠ x := fun e => hj (nodup_ix hN e1 (e ▸ hi))
          simp [this, e]
        · exact .inr ⟨k, c, e, z.sameBut hs (cne y c e)⟩
    · obtain ⟨w', z⟩ := I.cell y c e
      exact ⟨w', z.sameBut hs (cne y c e)⟩
    · obtain ⟨e, n, ne, nf, d⟩ := I.pin p hp
      exact ⟨(hs.2 p.1 ne).trans e, n, ne, nf, d⟩
  · have hfn : X.fn x = true := by
      rcases hf with z | z
      · exact z
      · rw [z] at hk; cases hk
    obtain ⟨c, hc⟩ := I.ok.has x (.inl hk)
    obtain ⟨w', z⟩ := I.cell x c hc
    refine wpAny_storeName_cell I.ok.kind hk hc z (fun h' hc' hs => ?_)
    obtain ⟨oc, hoc, hocd⟩ := id z
    refine h { s with heap := h' } ⟨I.ok, I.os, I.bare, ⟨fun b o e n hb hx => ?_, fun b o e n hb hx => ?_, I.base.free, fun b o e hx => ?_, I.base.tups, I.base.frzs, I.base.tbls⟩, ⟨m, hn.sameBut hs (Ne.symm (cne x c hc)), fun j y v' e1 e2 e3 => ?_⟩, fun y c' e => ?_, I.free, I.freeC, fun p hp => ?_, tracked ⟨oc, hoc, I.freeC x c hc⟩ hs, by simpa using I.len⟩ ⟨c, hs, .inr hc⟩
    · exact (hs.2 b (Nat.ne_of_lt (Nat.lt_of_lt_of_le (Heap.lt_size e) (I.ok.cab x c hfn hc)))).trans (I.base.keep b o e n hb hx)
    · obtain ⟨sl, e1⟩ := I.base.slot b o e n hb hx
      exact ⟨sl, (hs.2 b (Nat.ne_of_lt (Nat.lt_of_lt_of_le (Heap.lt_size e) (I.ok.cab x c hfn hc)))).trans e1⟩
    · obtain ⟨o', e1⟩ := I.base.there b o e hx
      exact ⟨o', (hs.2 b (Nat.ne_of_lt (Nat.lt_of_lt_of_le (Heap.lt_size e) (I.ok.cab x c hfn hc)))).trans e1⟩
    · by_cases hj : j = i
      · subst hj
        rw [hi] at e1; cases e1
        rw [List.getElem?_set_self hiσ] at e2
        cases e2
        exact ⟨u, r, .inr ⟨.inl hk, c, hc, hc'⟩⟩
      · rw [List.getElem?_set_ne (Ne.symm hj)] at e2
        obtain ⟨u', r', q⟩ := hl j y v' e1 e2 e3
        refine ⟨u', r', ?_⟩
        rcases q with q | ⟨k, c', e, z'⟩
        · exact .inl q
        · refine .inr ⟨k, c', e, z'.sameBut hs ?_⟩
          rintro rfl
          exact hj (nodup_ix hN e1 (I.ok.inj _ _ _ e hc ▸ hi))
    · by_cases hcc : c' = c
      · subst hcc; exact ⟨_, hc'⟩
      · obtain ⟨w2, z2⟩ := I.cell y c' e
        exact ⟨w2, z2.sameBut hs hcc⟩
    · obtain ⟨e, n, ne, nf, d⟩ := I.pin p hp
      refine ⟨(hs.2 p.1 ?_).trans e, n, ne, nf, d⟩
      intro q
      rw [q, hoc] at e
      have q' : oc = p.2 := Option.some.inj e
      exact d w' (by rw [← q']; exact hocd)
theorem store_ok {M : Model} {A : Around} {E : Value → Shared → Prop} {i : Nat} {x : Str} {v : V} {u : Value} {Q : Unit → Shared → Prop} (I : Inv X pins σ H s) (hN : X.N.Nodup) (hi : X.N[i]? = some x) (hx : Loc X.env.scope x) (r : RelV v u)
    (h : ∀ s', Inv X pins (σ.set i (some v)) H s' → Q () s') (hf : X.fn x = true ∨ X.env.scope.names.lookup x = some .local := by first | exact .inl rfl | exact .inr rfl | assumption) : wpAny M A (storeName X.env x u) Q E s :=
  store_ok2 I hN hi hx r (fun s' I' _ => h s' I') hf
theorem Inv.call' {s' : Shared} {ch : List Addr} (I : Inv X pins σ H s) (ho : s'.os = s.os) (u : Un (frs X.stack) ch H H' s.heap s'.heap) (hok : HOk X.prog X.w H' s'.heap) (hg : AllBare s'.gens)
    (hch : ∀ b ∈ ch, (b ∈ X.ex ∨ X.s₀.heap.objs.size ≤ b) ∧ b ≠ X.env.locals ∧ (∀ x c, X.env.cells.lookup x = some c → c ≠ b) ∧ ∀ p ∈ X.pn ++ pins, p.1 ≠ b) : Inv X pins σ H' s' := by
  obtain ⟨h', g', d', t', o'⟩ := s'
  have e : o' = s.os := ho
  subst e
  exact I.call (g' := g') (t' := t') (d' := d') u hok hg hch
end
abbrev XK := Value → Option Addr → Hp → Prop
abbrev St := List (Option V)
abbrev VK := V → Hp → Prop
abbrev TE := St → Hp → VK → Prop
abbrev TT := St → Hp → (Bool → Hp → Prop) → Prop
abbrev TA := St → Hp → (List V → Hp → Prop) → Prop
structure Ends where
  nx : St → Hp → Prop
  rt : VK
  bk : St → Hp → Prop := fun _ _ => False
  ct : St → Hp → Prop := fun _ _ => False
abbrev TS := Ends → St → Hp → Prop
def EP (X : Cx) (pins : List (Addr × Obj)) (σ : St) (Q : VK) (u : Value) (s' : Shared) : Prop := ∃ v H', Inv X pins σ H' s' ∧ RelV v u ∧ Q v H'
def TP (X : Cx) (pins : List (Addr × Obj)) (σ : St) (Q : Bool → Hp → Prop) (b : Bool) (s' : Shared) : Prop := ∃ H', Inv X pins σ H' s' ∧ Q b H'
def AP (X : Cx) (pins : List (Addr × Obj)) (σ : St) (Q : List V → Hp → Prop) (us : List Value) (s' : Shared) : Prop := ∃ vs H', Inv X pins σ H' s' ∧ Vals vs us ∧ Q vs H'
def SP (X : Cx) (pins : List (Addr × Obj)) (D : Ends) (f : Flow) (s' : Shared) : Prop :=
  match f with
  | .next => ∃ σ' H', Inv X pins σ' H' s' ∧ D.nx σ' H'
  | .brk => ∃ σ' H', Inv X pins σ' H' s' ∧ D.bk σ' H'
  | .cont => ∃ σ' H', Inv X pins σ' H' s' ∧ D.ct σ' H'
  | .ret u => ∃ v σ' H', Inv X pins σ' H' s' ∧ RelV v u ∧ D.rt v H'
def PE (X : Cx) (e : Expr) (t : TE) : Prop :=
  ∀ (pins : List (Addr × Obj)) (s : Shared) (σ : St) (H : Hp) (Q : VK), Inv X pins σ H s → t σ H Q → wpAny (model X.prog X.w) X.A (eval e X.env) (EP X pins σ Q) X.xe s
def PT (X : Cx) (e : Expr) (t : TT) : Prop :=
  ∀ (pins : List (Addr × Obj)) (s : Shared) (σ : St) (H : Hp) (Q : Bool → Hp → Prop), Inv X pins σ H s → t σ H Q → wpAny (model X.prog X.w) X.A (isTrue e X.env (eval e X.env)) (TP X pins σ Q) X.xe s
def PW (X : Cx) (e : Expr) (t : TT) : Prop :=
  ∀ (whole : Sem Value) (pins : List (Addr × Obj)) (s : Shared) (σ : St) (H : Hp) (Q : Bool → Hp → Prop), Inv X pins σ H s → t σ H Q → wpAny (model X.prog X.w) X.A (isTrue e X.env whole) (TP X pins σ Q) X.xe s
theorem PW.pt {X : Cx} {e : Expr} {t : TT} (h : PW X e t) : PT X e t := h _
def PA (X : Cx) (es : List Expr) (t : TA) : Prop :=
  ∀ (pos : Pos) (pins : List (Addr × Obj)) (s : Shared) (σ : St) (H : Hp) (Q : List V → Hp → Prop), Inv X pins σ H s → t σ H Q → wpAny (model X.prog X.w) X.A (spliced (backTo pos (starEach es X.env))) (AP X pins σ Q) X.xe s
def PS (X : Cx) (st : Stmt) (t : TS) : Prop :=
  ∀ (pins : List (Addr × Obj)) (s : Shared) (σ : St) (H : Hp) (D : Ends), Inv X pins σ H s → t D σ H → wpAny (model X.prog X.w) X.A (exec st X.env) (SP X pins D) X.xe s
def PSs (X : Cx) (st : List Stmt) (t : TS) : Prop :=
  ∀ (pins : List (Addr × Obj)) (s : Shared) (σ : St) (H : Hp) (D : Ends), Inv X pins σ H s → t D σ H → wpAny (model X.prog X.w) X.A (execs st X.env) (SP X pins D) X.xe s
theorem thn {α : Type} {t : Sem α} {Q Q' : α → Shared → Prop} {M : Model} {A : Around} {E : Value → Shared → Prop} {s : Shared} (h : wpAny M A t Q E s) (hQ : ∀ a s, Q a s → Q' a s) : wpAny M A t Q' E s := wpAny_mono h hQ fun _ _ x => x
section
variable {X : Cx}
def tVar (i : Nat) : TE := fun σ H Q => ∃ v, σ[i]? = some (some v) ∧ Q v H
def tC (v : V) : TE := fun _ H Q => Q v H
theorem pe_var {i : Nat} {x : Str} {pos : Pos} (hN : X.N[i]? = some x) (hv : Vis X.env.scope x) (hd : (x == ("__debug__" : Str)) = false := by decide) (hcd : (x == ("__classdict__" : Str)) = false := by decide) : PE X (.Name x pos) (tVar i) := by
  intro pins s σ H Q I h
  obtain ⟨v, e, h⟩ := h
  obtain ⟨m, hn, hl⟩ := I.loc
  obtain ⟨u, r, l⟩ := hl i x v hN e hv
  have fin : EP X pins σ Q u s := ⟨v, H, I, r, h⟩
  rcases l with ⟨hk, hm⟩ | ⟨hk, c, hc, hcell⟩
  · exact wpAny_Name (wpAny_loadName_local I.ok.kind hk hn hm fin) hd
  · rcases hk with hk | hk
    · exact wpAny_Name (wpAny_loadName_cell I.ok.kind hk hc hcell fin) hd
    · exact wpAny_Name (wpAny_loadName_free I.ok.kind hk hc hcell fin hcd) hd
theorem pe_int {i j pos} : PE X (.Constant (.int i) j pos) (tC (.int i)) := fun _ _ _ H _ I h => wpAny_Constant_int ⟨.int i, H, I.tok _, ⟨_, rfl⟩, h⟩
theorem pe_bl {b j pos} : PE X (.Constant (.bool b) j pos) (tC (.bl b)) := fun _ _ _ H _ I h => Constant_bool ⟨.bl b, H, I, rfl, h⟩
theorem pe_non {j pos} : PE X (.Constant .none j pos) (tC .non) := fun _ _ _ H _ I h => Constant_none ⟨.non, H, I, rfl, h⟩
theorem pe_str {x j pos} : PE X (.Constant (.str x) j pos) (tC (.str x)) := fun _ _ _ H _ I h => Calls.Constant_str ⟨.str x, H, I.tok _, ⟨_, rfl⟩, h⟩
def Gl (X : Cx) (x : Str) : Prop := X.env.kindOf x = some .globalImplicit
theorem ld_glob {E : Value → Shared → Prop} {pins : List (Addr × Obj)} {s : Shared} {σ : St} {H : Hp} {x : Str} {u : Value} {pos : Pos} {Q : Value → Shared → Prop} (I : Inv X pins σ H s) (hg : Gl X x) (hm : X.mg x = some u) (h : Q u s)
    (hd : (x == ("__debug__" : Str)) = false := by decide) : wpAny (model X.prog X.w) X.A (eval (.Name x pos) X.env) Q E s :=
  Calls.Name_function_global I.ok.kind hg (Calls.loadGlobal_global (by rw [I.ok.glob]; exact I.mod.glob.keeps I.bk) hm h) hd
theorem ld_blt {E : Value → Shared → Prop} {pins : List (Addr × Obj)} {s : Shared} {σ : St} {H : Hp} {x : Str} {u : Value} {pos : Pos} {Q : Value → Shared → Prop} (I : Inv X pins σ H s) (hg : Gl X x) (hm : X.mg x = none) (hv : bootBuiltins x = some u) (h : Q u s)
    (hn : x ≠ "__name__" := by decide) (hd : (x == ("__debug__" : Str)) = false := by decide) : wpAny (model X.prog X.w) X.A (eval (.Name x pos) X.env) Q E s := by
  obtain ⟨mb, h1, h2⟩ := I.mod.blt
  exact Calls.Name_function_global I.ok.kind hg (Calls.loadGlobal_builtin (by rw [I.ok.glob]; exact I.mod.glob.keeps I.bk) hm (by rw [I.ok.blt]; exact h1.keeps I.bk) ((h2 x hn).trans hv) h) hd
theorem pe_glob {x : Str} {v : V} {u : Value} {pos : Pos} (hg : Gl X x) (hm : X.mg x = some u) (r : RelV v u) (hd : (x == ("__debug__" : Str)) = false := by decide) : PE X (.Name x pos) (tC v) :=
  fun _ _ _ H _ I h => ld_glob I hg hm ⟨v, H, I, r, h⟩ hd
theorem pe_bltn {x : Str} {v : V} {u : Value} {pos : Pos} (hg : Gl X x) (hm : X.mg x = none) (hv : bootBuiltins x = some u) (r : RelV v u) (hn : x ≠ "__name__" := by decide) (hd : (x == ("__debug__" : Str)) = false := by decide) : PE X (.Name x pos) (tC v) :=
  fun _ _ _ H _ I h => ld_blt I hg hm hv ⟨v, H, I, r, h⟩ hn hd
variable {a b : Expr} {ta tb : TE} {pos : Pos}
variable {tA tB' : TT} {rest : List Expr}
def tAnd (t u : TT) : TT := fun σ H Q => t σ H fun c H1 => if c = true then u σ H1 Q else Q false H1
def tOr (t u : TT) : TT := fun σ H Q => t σ H fun c H1 => if c = true then Q true H1 else u σ H1 Q
def tNot (t : TT) : TT := fun σ H Q => t σ H fun c H1 => Q (!c) H1
theorem pw_and1 (ha : PT X a tA) : PW X (.BoolOp .And [a] pos) tA := by
  intro wh pins s σ H Q I h
  refine isTrue_and (thn (ha pins s σ H Q I h) fun c s1 e => ?_)
  cases c with
  | true => exact isTrue_and_nil e
  | false => exact e
theorem pw_or1 (ha : PT X a tA) : PW X (.BoolOp .Or [a] pos) tA := by
  intro wh pins s σ H Q I h
  refine isTrue_or (thn (ha pins s σ H Q I h) fun c s1 e => ?_)
  cases c with
  | false => exact isTrue_or_nil e
  | true => exact e
theorem pw_and (ha : PT X a tA) (hb : PW X (.BoolOp .And (b :: rest) pos) tB') : PW X (.BoolOp .And (a :: b :: rest) pos) (tAnd tA tB') := by
  intro wh pins s σ H Q I h
  refine isTrue_and (thn (ha pins s σ H _ I h) fun c s1 ⟨H1, I1, q1⟩ => ?_)
  cases c with
  | true => exact hb wh pins s1 σ H1 Q I1 q1
  | false => exact ⟨H1, I1, q1⟩
theorem pw_or (ha : PT X a tA) (hb : PW X (.BoolOp .Or (b :: rest) pos) tB') : PW X (.BoolOp .Or (a :: b :: rest) pos) (tOr tA tB') := by
  intro wh pins s σ H Q I h
  refine isTrue_or (thn (ha pins s σ H _ I h) fun c s1 ⟨H1, I1, q1⟩ => ?_)
  cases c with
  | true => exact ⟨H1, I1, q1⟩
  | false => exact hb wh pins s1 σ H1 Q I1 q1
theorem pt_not (ha : PT X a tA) : PT X (.UnaryOp .Not a pos) (tNot tA) := by
  intro pins s σ H Q I h
  exact isTrue_not (ha pins s σ H (fun c H1 => Q (!c) H1) I h)
def tAndV (ta tb : TE) : TE := fun σ H Q => ta σ H fun x H1 => ∃ c, x = .bl c ∧ if c = true then tb σ H1 Q else Q (.bl false) H1
def tNotV (ta : TE) : TE := fun σ H Q => ta σ H fun x H1 => ∃ c, x = .bl c ∧ Q (.bl (!c)) H1
theorem pe_one {op} {t : TE} (h : PE X a t) : PE X (.BoolOp op [a] pos) t := fun pins s σ H Q I hw => BoolOp_one (h pins s σ H Q I hw)
theorem pe_and (ha : PE X a ta) (hb : PE X (.BoolOp .And (b :: rest) pos) tb) : PE X (.BoolOp .And (a :: b :: rest) pos) (tAndV ta tb) := by
  intro pins s σ H Q I h
  refine BoolOp_and (thn (ha pins s σ H _ I h) fun v s1 ⟨x, H1, I1, r1, q1⟩ => ?_)
  obtain ⟨c, rfl, q1⟩ := q1
  cases r1
  refine wpAny_truthy_bool ?_
  cases c with
  | true => exact hb pins s1 σ H1 Q I1 q1
  | false => exact ⟨.bl false, H1, I1, rfl, q1⟩
theorem pe_not (ha : PE X a ta) : PE X (.UnaryOp .Not a pos) (tNotV ta) := by
  intro pins s σ H Q I h
  refine UnaryOp_ (thn (ha pins s σ H _ I h) fun v s1 ⟨x, H1, I1, r1, q1⟩ => ?_)
  obtain ⟨c, rfl, q1⟩ := q1
  cases r1
  exact not_of (wpAny_truthy_bool ⟨.bl (!c), H1, I1, rfl, q1⟩)
def tIf (t : TT) (ta tb : TE) : TE := fun σ H Q => t σ H fun c H1 => if c = true then ta σ H1 Q else tb σ H1 Q
theorem pe_ifExp {c : Expr} (hc : PT X c tA) (ha : PE X a ta) (hb : PE X b tb) : PE X (.IfExp c a b pos) (tIf tA ta tb) := by
  intro pins s σ H Q I h
  refine wpAny_IfExp (thn (hc pins s σ H _ I h) fun d s1 ⟨H1, I1, q1⟩ => ?_)
  cases d with
  | true => exact ha pins s1 σ H1 Q I1 q1
  | false => exact hb pins s1 σ H1 Q I1 q1
end
def SqL (K : PySem.W.Frag) (H : Hp) (a : Addr) (xs : List V) : Prop :=
  Rd H a (.lst xs) ∨
    ∃ (o : Obj) (its : Array Value) (n : Nat), K.lookup a = some o ∧ o.cls = .type "list" ∧ o.dict = none ∧ o.data = .seq its n ∧ its.size ≤ sizeLine ∧ Vals xs its.toList
def SqT (K : PySem.W.Frag) (H : Hp) (a : Addr) (xs : List V) : Prop :=
  Rd H a (.tup xs) ∨
    ∃ (o : Obj) (its : Array Value) (n : Nat), K.lookup a = some o ∧ o.cls = .type "tuple" ∧ o.data = .seq its n ∧ its.size ≤ sizeLine ∧ Vals xs its.toList
def absV : Value → Option V
  | .none => some .non
  | .bool b => some (.bl b)
  | .int i _ => some (.int i)
  | .str x _ => some (.str x)
  | .bytes b _ => some (.byt b)
  | .float b _ => some (.flt b)
  | .ref a => some (.ref a)
  | .type n => some (.ty n)
  | _ => none
theorem RelV.abs {x : V} {u : Value} (r : RelV x u) : absV u = some x := by
  cases x with
  | non => cases r; rfl
  | bl _ => cases r; rfl
  | int _ => obtain ⟨t, rfl⟩ := r; rfl
  | str _ => obtain ⟨t, rfl⟩ := r; rfl
  | byt _ => obtain ⟨t, rfl⟩ := r; rfl
  | flt _ => obtain ⟨t, rfl⟩ := r; rfl
  | ref _ => cases r; rfl
  | ty _ => cases r; rfl
theorem RelV.inj {x y : V} {u : Value} (r : RelV x u) (q : RelV y u) : x = y := Option.some.inj (r.abs.symm.trans q.abs)
theorem Vals.inj : ∀ {xs ys : List V} {us : List Value}, Vals xs us → Vals ys us → xs = ys
  | _, _, _, .nil, .nil => rfl
  | _, _, _, .cons r t, .cons r' t' => by rw [r.inj r', Vals.inj t t']
section
variable {X : Cx} {pins : List (Addr × Obj)} {σ : St} {H : Hp} {s : Shared} {a : Addr} {xs ys : List V}
theorem SqL.of {K : PySem.W.Frag} (h : H a = some (.lst xs)) : SqL K H a xs := .inl (.inl h)
theorem SqT.of {K : PySem.W.Frag} (h : H a = some (.tup xs)) : SqT K H a xs := .inl (.inl h)
theorem Inv.list (I : Inv X pins σ H s) (h : SqL X.K H a xs) : ∃ its : List Value, Vals xs its ∧ PlainL s.heap a its.toArray ∧ xs.length ≤ sizeLine := by
  rcases h with h | ⟨o, its, n, hk, hc, hd, hs, hz, r⟩
  · obtain ⟨z, its, n, r, e⟩ := h.ok I.hok
    exact ⟨its, r, ⟨_, n, e, rfl, rfl, rfl⟩, z⟩
  · refine ⟨its.toList, r, ⟨o, n, I.kIn a o hk, hc, hd, by simpa using hs⟩, ?_⟩
    have e := r.length
    simp only [Array.length_toList] at e
    omega
theorem Inv.tuple (I : Inv X pins σ H s) (h : SqT X.K H a xs) : ∃ its : List Value, Vals xs its ∧ IsTup s.heap a its.toArray ∧ xs.length ≤ sizeLine := by
  rcases h with h | ⟨o, its, n, hk, hc, hs, hz, r⟩
  · obtain ⟨z, its, r, p⟩ := h.ok I.hok
    exact ⟨its, r, p.1, z⟩
  · refine ⟨its.toList, r, ⟨o, I.kIn a o hk, hc, n, by simpa using hs⟩, ?_⟩
    have e := r.length
    simp only [Array.length_toList] at e
    omega
theorem Inv.list_inj (I : Inv X pins σ H s) (h : SqL X.K H a xs) (h' : SqL X.K H a ys) : xs = ys := by
  obtain ⟨its, r, ⟨o, n, e, _, _, d⟩, _⟩ := I.list h
  obtain ⟨its', r', ⟨o', n', e', _, _, d'⟩, _⟩ := I.list h'
  rw [e] at e'; cases e'
  rw [d] at d'
  injection d' with d1 _
  have : its = its' := by simpa using congrArg Array.toList d1
  subst this
  exact r.inj r'
theorem Inv.tuple_inj (I : Inv X pins σ H s) (h : SqT X.K H a xs) (h' : SqT X.K H a ys) : xs = ys := by
  obtain ⟨its, r, ⟨o, e, _, n, d⟩, _⟩ := I.tuple h
  obtain ⟨its', r', ⟨o', e', _, n', d'⟩, _⟩ := I.tuple h'
  rw [e] at e'; cases e'
  rw [d] at d'
  injection d' with d1 _
  have : its = its' := by simpa using congrArg Array.toList d1
  subst this
  exact r.inj r'
end
abbrev Cx.wish (X : Cx) (E : Value → Shared → Prop) : Cx := { X with xe := E }
abbrev Cx.nox (X : Cx) : Cx := X.wish fun _ _ => False
theorem Cx.Ok.wish {X : Cx} (ok : X.Ok) (E : Value → Shared → Prop) : (X.wish E).Ok :=
  ⟨ok.mod, ok.kind, ok.glob, ok.blt, ok.above, ok.inj, ok.has, ok.cab, ok.hd, ok.frames, ok.stk, ok.exf, ok.bs, ok.bsz, ok.noex, ok.exfs, ok.funs, ok.frf⟩
theorem Cx.Ok.unwish {X : Cx} {E : Value → Shared → Prop} (ok : (X.wish E).Ok) : X.Ok :=
  ⟨ok.mod, ok.kind, ok.glob, ok.blt, ok.above, ok.inj, ok.has, ok.cab, ok.hd, ok.frames, ok.stk, ok.exf, ok.bs, ok.bsz, ok.noex, ok.exfs, ok.funs, ok.frf⟩
section
variable {X : Cx} {pins : List (Addr × Obj)} {σ : St} {H : Hp} {s : Shared} {E : Value → Shared → Prop}
theorem Inv.wish (I : Inv X pins σ H s) (E : Value → Shared → Prop) : Inv (X.wish E) pins σ H s := ⟨I.ok.wish E, I.os, I.bare, I.base, I.loc, I.cell, I.free, I.freeC, I.pin, I.hok, I.len⟩
theorem Inv.unwish (I : Inv (X.wish E) pins σ H s) : Inv X pins σ H s := ⟨I.ok.unwish, I.os, I.bare, I.base, I.loc, I.cell, I.free, I.freeC, I.pin, I.hok, I.len⟩
theorem SP.unwish {D : Ends} {f : Flow} {s' : Shared} (h : SP (X.wish E) pins D f s') : SP X pins D f s' := by
  cases f with
  | next => obtain ⟨σ', H', I, q⟩ := h; exact ⟨σ', H', I.unwish, q⟩
  | brk => obtain ⟨σ', H', I, q⟩ := h; exact ⟨σ', H', I.unwish, q⟩
  | cont => obtain ⟨σ', H', I, q⟩ := h; exact ⟨σ', H', I.unwish, q⟩
  | ret u => obtain ⟨v, σ', H', I, r, q⟩ := h; exact ⟨v, σ', H', I.unwish, r, q⟩
theorem PSs.nox {st : List Stmt} {t : TS} (h : PSs X.nox st t) : PSs X st t := fun pins s σ H D I hw =>
  wpAny_mono (h pins s σ H D (I.wish _) hw) (fun _ _ q => q.unwish) fun _ _ z => False.elim z
end
section
variable {X : Cx} {st : Stmt} {rest : List Stmt} {t u : TS} {e : Expr} {te : TE} {pos : Pos}
def tNext : TS := fun D σ H => D.nx σ H
def tSeq (t u : TS) : TS := fun D σ H => t { D with nx := u D } σ H
theorem pss_nil : PSs X [] tNext := fun _ _ σ H _ I h => wpAny_execs_nil ⟨σ, H, I, h⟩
theorem pss_cons (h1 : PS X st t) (h2 : PSs X rest u) : PSs X (st :: rest) (tSeq t u) := by
  intro pins s σ H D I h
  refine wpAny_execs_cons (thn (h1 pins s σ H { D with nx := u D } I h) fun f s1 q => ?_)
  cases f with
  | next =>
    obtain ⟨σ', H', I', q⟩ := q
    exact h2 pins s1 σ' H' D I' q
  | ret v => exact q
  | brk => exact q
  | cont => exact q
theorem pss_one (h1 : PS X st t) : PSs X [st] t := by
  intro pins s σ H D I h
  refine wpAny_execs_cons (thn (h1 pins s σ H D I h) fun f s1 q => ?_)
  cases f with
  | next => exact wpAny_execs_nil q
  | ret v => exact q
  | brk => exact q
  | cont => exact q
theorem Inv.quiet {pins : List (Addr × Obj)} {σ : St} {H : Hp} {s : Shared} (I : Inv X pins σ H s) : interactive X.env = false := by simp [interactive, I.ok.kind]
def tDrop (te : TE) : TS := fun D σ H => te σ H fun _ H1 => D.nx σ H1
theorem ps_expr (he : PE X e te) (hs : swapsWith e none pos.line X.env = pure false := by rfl) : PS X (.Expr e pos) (tDrop te) := by
  intro pins s σ H D I h
  exact wpAny_Expr_any (thn (he pins s σ H _ I h) fun v s1 ⟨x, H1, I1, r1, q1⟩ => ⟨σ, H1, I1, q1⟩) I.quiet hs
def tRet (te : TE) : TS := fun D σ H => te σ H D.rt
theorem ps_ret (he : PE X e te) : PS X (.Return (some e) pos) (tRet te) := by
  intro pins s σ H D I h
  exact wpAny_Return_some (thn (he pins s σ H _ I h) fun v s1 ⟨x, H1, I1, r1, q1⟩ => ⟨x, σ, H1, I1, r1, q1⟩)
def tIfS (c : TT) (t u : TS) : TS := fun D σ H => c σ H fun b H1 => if b = true then t D σ H1 else u D σ H1
theorem ps_if {c : Expr} {a b : List Stmt} {tc : TT} (hc : PT X c tc) (ha : PSs X a t) (hb : PSs X b u) : PS X (.If c a b pos) (tIfS tc t u) := by
  intro pins s σ H D I h
  refine wpAny_If (thn (hc pins s σ H _ I h) fun d s1 ⟨H1, I1, q1⟩ => ?_)
  cases d with
  | true => exact ha pins s1 σ H1 D I1 q1
  | false => exact hb pins s1 σ H1 D I1 q1
end
abbrev TG := V → St → Hp → (St → Hp → Prop) → Prop
abbrev TGs := List V → St → Hp → (St → Hp → Prop) → Prop
def PG (X : Cx) (target : Expr) (t : TG) : Prop :=
  ∀ (pins : List (Addr × Obj)) (s : Shared) (σ : St) (H : Hp) (v : V) (u : Value) (Q : St → Hp → Prop), Inv X pins σ H s → RelV v u → t v σ H Q →
    wpAny (model X.prog X.w) X.A (assign target X.env u) (fun _ s' => ∃ σ' H', Inv X pins σ' H' s' ∧ Q σ' H') X.xe s
def PGs (X : Cx) (ts : List Expr) (t : TGs) : Prop :=
  ∀ (pins : List (Addr × Obj)) (s : Shared) (σ : St) (H : Hp) (vs : List V) (us : List Value) (Q : St → Hp → Prop), Inv X pins σ H s → Vals vs us → t vs σ H Q →
    wpAny (model X.prog X.w) X.A (assignInOrder ((assignEach ts X.env).map (·.2)) us) (fun _ s' => ∃ σ' H', Inv X pins σ' H' s' ∧ Q σ' H') X.xe s
section
variable {X : Cx} {pos : Pos}
def gName (i : Nat) : TG := fun v σ H Q => Q (σ.set i (some v)) H
theorem pg_name {i : Nat} {x : Str} (hN : X.N.Nodup) (hi : X.N[i]? = some x) (hx : Loc X.env.scope x) (hf : X.fn x = true ∨ X.env.scope.names.lookup x = some .local := by first | exact .inl rfl | exact .inr rfl | assumption) : PG X (.Name x pos) (gName i) := by
  intro pins s σ H v u Q I r h
  exact wpAny_assign_Name (store_ok I hN hi hx r (fun s' I' => ⟨_, H, I', h⟩) hf)
def gNil : TGs := fun vs σ H Q => vs = [] ∧ Q σ H
def gCons (t : TG) (u : TGs) : TGs := fun vs σ H Q => ∃ v r, vs = v :: r ∧ t v σ H fun σ' H' => u r σ' H' Q
theorem pgs_nil : PGs X [] gNil := by
  intro pins s σ H vs us Q I r h
  obtain ⟨e, h⟩ := h
  subst e
  cases r
  exact assignInOrder_nil ⟨σ, H, I, h⟩
theorem pgs_cons {e : Expr} {es : List Expr} {t : TG} {u : TGs} (h1 : PG X e t) (h2 : PGs X es u)
    (hs : (assignEach (e :: es) X.env).map (·.2) = assign e X.env :: (assignEach es X.env).map (·.2) := by rfl) : PGs X (e :: es) (gCons t u) := by
  intro pins s σ H vs us Q I r h
  obtain ⟨v, vr, e1, h⟩ := h
  subst e1
  cases r with
  | cons r rr =>
    rw [hs]
    refine assignInOrder_cons (thn (h1 pins s σ H _ _ _ I r h) fun _ s1 ⟨σ1, H1, I1, q1⟩ => ?_)
    exact h2 pins s1 σ1 H1 _ _ Q I1 rr q1
def gTup (K : PySem.W.Frag) (n : Nat) (t : TGs) : TG := fun v σ H Q => ∃ a xs, v = .ref a ∧ SqT K H a xs ∧ xs.length = n ∧ t xs σ H Q
theorem pg_tup {es : List Expr} {k : Nat} {t : TGs} {n : Nat} (hc : X.calm = true) (h : PGs X es t)
    (hn : (assignEach es X.env).length = n := by rfl) (hst : (assignEach es X.env).findIdx? (·.1) = none := by rfl) : PG X (.Tuple es k pos) (gTup X.K n t) := by
  intro pins s σ H v u Q I r hw
  obtain ⟨a, xs, e1, hq, hl, hw⟩ := hw
  subst e1
  cases r
  obtain ⟨its, rv, ht, hz⟩ := I.tuple hq
  refine assign_Tuple_tuple (I.ok.hd hc) ht (by simp [hn, ← hl, rv.length]) hst fun h' hx => ?_
  have I1 : Inv X pins σ H { s with heap := h' } := I.kept (t' := s.toks) fun b o e => hx b o (Nat.ne_of_lt (Heap.lt_size e)) e
  exact h pins _ σ H xs _ Q I1 (by simpa using rv) hw
def tAsg (te : TE) (g : TG) : TS := fun D σ H => te σ H fun x H1 => g x σ H1 D.nx
theorem ps_set {i : Nat} {x : Str} {e : Expr} {te : TE} {pos' : Pos} (hN : X.N.Nodup) (hi : X.N[i]? = some x) (hx : Loc X.env.scope x) (he : PE X e te) (hs : swapsWith e (some (.Name x pos')) pos.line X.env = pure false := by rfl) (hf : X.fn x = true ∨ X.env.scope.names.lookup x = some .local := by first | exact .inl rfl | exact .inr rfl | assumption) :
    PS X (.Assign [.Name x pos'] e pos) (tAsg te (gName i)) := by
  intro pins s σ H D I h
  refine wpAny_Assign_Name (thn (he pins s σ H _ I h) fun v s1 ⟨y, H1, I1, r1, q1⟩ => ?_) hs
  exact store_ok I1 hN hi hx r1 (fun s2 I2 => ⟨_, H1, I2, q1⟩) hf
end
structure It where
  go : Nat → Hp → Prop
  yld : Nat → Hp → V → Hp → Prop
  stop : Nat → Hp → Prop
def FpOk (X : Cx) (pins : List (Addr × Obj)) (H : Hp) (b : Addr) : Prop :=
  H b = none ∧ b ≠ X.env.locals ∧ b ∉ X.fs ∧ (b ∈ X.ex ∨ X.s₀.heap.objs.size ≤ b) ∧ (∀ x c, X.env.cells.lookup x = some c → c ≠ b) ∧ ∀ p ∈ X.pn ++ pins, p.1 ≠ b
theorem Inv.fpOk {X : Cx} {pins : List (Addr × Obj)} {σ : St} {H H' : Hp} {s : Shared} {b : Addr} (I : Inv X pins σ H s) (hb : s.heap.objs.size ≤ b) (hn : H' b = none) : FpOk X pins H' b := by
  refine ⟨hn, Nat.ne_of_gt (Nat.lt_of_lt_of_le I.lt hb), I.nofs hb, .inr (Nat.le_trans I.sz hb), fun x c e z => ?_, fun p hp z => ?_⟩
  · obtain ⟨v, q⟩ := I.cell x c e
    exact absurd (Nat.lt_of_lt_of_le q.lt (by rw [z]; exact hb)) (Nat.lt_irrefl _)
  · exact absurd (Nat.lt_of_lt_of_le (Heap.lt_size (I.pin p hp).1) (by rw [z]; exact hb)) (Nat.lt_irrefl _)
structure Turn (P : Program) (w : World) (K : PySem.W.Frag) (tg : Expr) (J : It) (fp : List Addr) (it : Addr) (tn : Nat → Heap → Prop) : Prop where
  mem : it ∈ fp
  obj : ∀ i h, tn i h → ∀ b ∈ fp, ∃ o, h.get? b = some o ∧ ∀ v, o.data ≠ .cell v
  keep : ∀ i h h', tn i h → (∀ b ∈ fp, ∀ o, h.get? b = some o → h'.get? b = some o) → tn i h'
  item : ∀ (X : Cx), X.prog = P → X.w = w → X.K = K → X.calm = true → ∀ (i : Nat) (pins : List (Addr × Obj)) (s : Shared) (σ : St) (H : Hp) (E : Value → Shared → Prop), Inv X pins σ H s → (∀ b ∈ fp, FpOk X pins H b) → tn i s.heap → J.go i H →
    wpAny (model P w) X.A (pyNext (.ref it)) (fun r s1 => ∃ u, r = some u ∧
      wpAny (model P w) X.A (letOwnedTupleGo tg (.ref it) u) (fun _ s2 => ∃ x H', Inv X pins σ H' s2 ∧ RelV x u ∧ J.yld i H x H' ∧ tn (i + 1) s2.heap ∧ ∀ b ∈ fp, H' b = none) E s1) E s
  done : ∀ (X : Cx), X.prog = P → X.w = w → X.K = K → X.calm = true → ∀ (i : Nat) (pins : List (Addr × Obj)) (s : Shared) (σ : St) (H : Hp) (E : Value → Shared → Prop), Inv X pins σ H s → (∀ b ∈ fp, FpOk X pins H b) → tn i s.heap → J.stop i H →
    wpAny (model P w) X.A (pyNext (.ref it)) (fun r s1 => r = none ∧ Inv X pins σ H s1) E s
  self : ∀ (A : Around) (i : Nat) (s : Shared) (Q : Value → Shared → Prop) (E : Value → Shared → Prop), tn i s.heap → Q (.ref it) s → wpAny (model P w) A (pyIter (.ref it)) Q E s
abbrev TI := St → Hp → (It → Hp → Prop) → Prop
def PIE (X : Cx) (pins : List (Addr × Obj)) (σ : St) (tg : Expr) (R : It → Hp → Prop) (itv : Value) (s2 : Shared) : Prop :=
  ∃ (it : Addr) (fp : List Addr) (tn : Nat → Heap → Prop) (J : It) (H' : Hp), itv = .ref it ∧ Inv X pins σ H' s2 ∧ Turn X.prog X.w X.K tg J fp it tn ∧ tn 0 s2.heap ∧ (∀ b ∈ fp, FpOk X pins H' b) ∧ R J H'
def PI (X : Cx) (tg iter : Expr) (wi : TI) : Prop :=
  ∀ (pins : List (Addr × Obj)) (s : Shared) (σ : St) (H : Hp) (R : It → Hp → Prop), Inv X pins σ H s → wi σ H R →
    wpAny (model X.prog X.w) X.A (eval iter X.env) (fun v s1 => wpAny (model X.prog X.w) X.A (pyIter v) (PIE X pins σ tg R) X.xe s1) X.xe s
theorem go_of {M : Model} {A : Around} {E : Value → Shared → Prop} {s : Shared} {tg : Expr} {it : Addr} {u : Value} {o : Obj} {n : String} {vs : Array Value} {Q : Unit → Shared → Prop} (ho : s.heap.get? it = some o) (hc : o.cls = .type n) (hd : o.data = .fields vs)
    (hn : ["enumerate", "zip", "dict_itemiterator", "dict_reverseitemiterator", "odict_iterator", "itertools.zip_longest", "itertools.pairwise"].contains n = false) (hQ : Q () s) : wpAny M A (letOwnedTupleGo tg (.ref it) u) Q E s := by
  unfold letOwnedTupleGo
  cases tg <;> first
    | exact wpAny_pure hQ
    | (cases u <;> first
        | exact wpAny_pure hQ
        | (refine wpAny_bind (wpAny_load ho ?_)
           rw [hc, hd]
           show wpAny M A (if (["enumerate", "zip", "dict_itemiterator", "dict_reverseitemiterator", "odict_iterator", "itertools.zip_longest", "itertools.pairwise"].contains n && vs[0]? == some (rawInt _)) = true then _ else _) Q E s
           rw [if_neg (by intro h; rw [hn, Bool.false_and] at h; cases h)]
           exact wpAny_pure hQ))
def Itl (K : PySem.W.Frag) (a : Addr) : It :=
  ⟨fun i H => ∃ xs x, SqL K H a xs ∧ xs[i]? = some x, fun i H x H' => H' = H ∧ ∀ xs, SqL K H a xs → xs[i]? = some x, fun i H => ∃ xs, SqL K H a xs ∧ xs.length ≤ i⟩
def Itt (K : PySem.W.Frag) (a : Addr) : It :=
  ⟨fun i H => ∃ xs x, SqT K H a xs ∧ xs[i]? = some x, fun i H x H' => H' = H ∧ ∀ xs, SqT K H a xs → xs[i]? = some x, fun i H => ∃ xs, SqT K H a xs ∧ xs.length ≤ i⟩
def Itr (lo : Int) (n : Nat) : It := ⟨fun i _ => i < n, fun i H x H' => H' = H ∧ x = .int (lo + i), fun i _ => n ≤ i⟩
theorem turn_list {P : Program} {w : World} {K : PySem.W.Frag} {tg : Expr} (a it : Addr) : Turn P w K tg (Itl K a) [it] it (fun i h => h.IsListIter it a i) where
  mem := by simp
  obj := fun i h st b hb => by
    have e : b = it := by simpa using hb
    subst e
    obtain ⟨o, e, c, d⟩ := st
    exact ⟨o, e, fun v z => by rw [d] at z; cases z⟩
  keep := fun i h h' st k => st.at fun o e => k it (by simp) o e
  item := by
    intro X hP hw hK hc i pins s σ H E I hf st hg
    subst hP hw hK
    obtain ⟨xs, x, hq, hx⟩ := hg
    obtain ⟨its, rv, p, hz⟩ := I.list hq
    obtain ⟨u, hu, ru⟩ := rv.get hx
    obtain ⟨f0, f1, f2, f3, f4, f5⟩ := hf it (by simp)
    refine wpAny_pyNext_list_item st p.isList (x := u) (by simpa using hu) fun h' st' sb => ?_
    have I1 : Inv X pins σ H { s with heap := h' } := I.turned (t' := s.toks) (fun b o hb e => (sb.2 b hb).trans e) f0 f1 f3 f4 f5
    obtain ⟨o, e, c, d⟩ := id st'
    exact ⟨u, rfl, go_of (s := { s with heap := h' }) e c d (by decide) ⟨x, H, I1, ru, ⟨rfl, fun ys hy => by rw [I.list_inj hy hq]; exact hx⟩, st', fun b hb => (hf b hb).1⟩⟩
  done := by
    intro X hP hw hK hc i pins s σ H E I hf st hg
    subst hP hw hK
    obtain ⟨xs, hq, hx⟩ := hg
    obtain ⟨its, rv, p, hz⟩ := I.list hq
    obtain ⟨f0, f1, f2, f3, f4, f5⟩ := hf it (by simp)
    have hl := rv.length
    exact wpAny_pyNext_list_end (I.ok.hd hc) st p.isList (by simp; omega) fun h' eb => ⟨rfl, I.turned (t' := s.toks) (fun b o hb e => eb b o hb e) f0 f1 f3 f4 f5⟩
  self := fun _ _ _ _ _ st h => wpAny_pyIter_listiter st h
theorem turn_tuple {P : Program} {w : World} {K : PySem.W.Frag} {tg : Expr} (a it : Addr) : Turn P w K tg (Itt K a) [it] it (fun i h => h.IsTupleIter it a i) where
  mem := by simp
  obj := fun i h st b hb => by
    have e : b = it := by simpa using hb
    subst e
    obtain ⟨o, e, c, d⟩ := st
    exact ⟨o, e, fun v z => by rw [d] at z; cases z⟩
  keep := fun i h h' st k => st.at fun o e => k it (by simp) o e
  item := by
    intro X hP hw hK hc i pins s σ H E I hf st hg
    subst hP hw hK
    obtain ⟨xs, x, hq, hx⟩ := hg
    obtain ⟨its, rv, p, hz⟩ := I.tuple hq
    obtain ⟨u, hu, ru⟩ := rv.get hx
    obtain ⟨f0, f1, f2, f3, f4, f5⟩ := hf it (by simp)
    refine wpAny_pyNext_tuple_item st (show s.heap.IsTuple a its.toArray from p) (x := u) (by simpa using hu) fun h' st' sb => ?_
    have I1 : Inv X pins σ H { s with heap := h' } := I.turned (t' := s.toks) (fun b o hb e => (sb.2 b hb).trans e) f0 f1 f3 f4 f5
    obtain ⟨o, e, c, d⟩ := id st'
    exact ⟨u, rfl, go_of (s := { s with heap := h' }) e c d (by decide) ⟨x, H, I1, ru, ⟨rfl, fun ys hy => by rw [I.tuple_inj hy hq]; exact hx⟩, st', fun b hb => (hf b hb).1⟩⟩
  done := by
    intro X hP hw hK hc i pins s σ H E I hf st hg
    subst hP hw hK
    obtain ⟨xs, hq, hx⟩ := hg
    obtain ⟨its, rv, p, hz⟩ := I.tuple hq
    obtain ⟨f0, f1, f2, f3, f4, f5⟩ := hf it (by simp)
    have hl := rv.length
    exact wpAny_pyNext_tuple_end (I.ok.hd hc) st (show s.heap.IsTuple a its.toArray from p) (by simp; omega) fun h' eb => ⟨rfl, I.turned (t' := s.toks) (fun b o hb e => eb b o hb e) f0 f1 f3 f4 f5⟩
  self := fun _ _ _ _ _ st h => wpAny_pyIter_tupleiter st h
theorem turn_range {P : Program} {w : World} {K : PySem.W.Frag} {tg : Expr} (it : Addr) (lo : Int) (n : Nat) : Turn P w K tg (Itr lo n) [it] it (fun i h => IsRangeIter h it (lo + (i : Nat) * 1) ((n : Int) - (i : Nat)) 1) where
  mem := by simp
  obj := fun i h st b hb => by
    have e : b = it := by simpa using hb
    subst e
    exact ⟨_, st, fun v z => by
      have z' : Data.fields _ = Data.cell v := z
      cases z'⟩
  keep := fun i h h' st k => k it (by simp) _ st
  item := by
    intro X hP hw hK hc i pins s σ H E I hf st hg
    subst hP hw hK
    obtain ⟨f0, f1, f2, f3, f4, f5⟩ := hf it (by simp)
    have W := Walks.range (prog := X.prog) (w := X.w) (I.ok.hd hc) it lo 1 n
    refine W.item i s _ _ hg st fun v h' tk hv st' kk => ?_
    obtain ⟨t, rfl⟩ := hv
    have I1 : Inv X pins σ H { s with heap := h', toks := tk } := I.turned (fun b o hb e => kk b o (by simpa using hb) e) f0 f1 f3 f4 f5
    refine ⟨_, rfl, go_of (s := { s with heap := h', toks := tk }) (n := "range_iterator") st' rfl rfl (by decide) ⟨.int (lo + i), H, I1, ⟨t, ?_⟩, ⟨rfl, rfl⟩, st', fun b hb => (hf b hb).1⟩⟩
    rw [Int.mul_one]
  done := by
    intro X hP hw hK hc i pins s σ H E I hf st hg
    subst hP hw hK
    obtain ⟨f0, f1, f2, f3, f4, f5⟩ := hf it (by simp)
    exact wpAny_pyNext_range_end (I.ok.hd hc) st (by have : n ≤ i := hg; omega) fun h' eb => ⟨rfl, I.turned (t' := s.toks) (fun b o hb e => eb b o hb e) f0 f1 f3 f4 f5⟩
  self := fun _ _ _ _ _ st h => wpAny_pyIter_rangeiter st h
section
variable {X : Cx} {tg : Expr}
def iList (K : PySem.W.Frag) (tl : TE) : TI := fun σ H R => tl σ H fun x H1 => ∃ a, x = .ref a ∧ (∃ xs, SqL K H1 a xs) ∧ R (Itl K a) H1
def iTup (K : PySem.W.Frag) (tl : TE) : TI := fun σ H R => tl σ H fun x H1 => ∃ a, x = .ref a ∧ (∃ xs, SqT K H1 a xs) ∧ R (Itt K a) H1
theorem pi_list {l : Expr} {tl : TE} (hl : PE X l tl) : PI X tg l (iList X.K tl) := by
  intro pins s σ H R I h
  refine thn (hl pins s σ H _ I h) fun v s1 ⟨x, H1, I1, r1, q1⟩ => ?_
  obtain ⟨a, e, ⟨xs, hq⟩, q⟩ := q1
  subst e
  cases r1
  obtain ⟨its, rv, p, hz⟩ := I1.list hq
  refine wpAny_pyIter_list p.isList ?_
  refine ⟨s1.heap.objs.size, [s1.heap.objs.size], _, _, H1, rfl, I1.kept (t' := s1.toks) fun b o e => Heap.get?_push_of_some _ e, turn_list a _, ⟨_, Heap.get?_push_size _ rfl, rfl, rfl⟩, fun b hb => ?_, q⟩
  have e : b = s1.heap.objs.size := by simpa using hb
  subst e
  exact I1.fpOk (Nat.le_refl _) (I1.hok.fresh (Nat.le_refl _))
theorem pi_tup {l : Expr} {tl : TE} (hl : PE X l tl) : PI X tg l (iTup X.K tl) := by
  intro pins s σ H R I h
  refine thn (hl pins s σ H _ I h) fun v s1 ⟨x, H1, I1, r1, q1⟩ => ?_
  obtain ⟨a, e, ⟨xs, hq⟩, q⟩ := q1
  subst e
  cases r1
  obtain ⟨its, rv, p, hz⟩ := I1.tuple hq
  refine wpAny_pyIter_tuple (show s1.heap.IsTuple a its.toArray from p) ?_
  refine ⟨s1.heap.objs.size, [s1.heap.objs.size], _, _, H1, rfl, I1.kept (t' := s1.toks) fun b o e => Heap.get?_push_of_some _ e, turn_tuple a _, ⟨_, Heap.get?_push_size _ rfl, rfl, rfl⟩, fun b hb => ?_, q⟩
  have e : b = s1.heap.objs.size := by simpa using hb
  subst e
  exact I1.fpOk (Nat.le_refl _) (I1.hok.fresh (Nat.le_refl _))
theorem range_it {pins : List (Addr × Obj)} {σ : St} {H : Hp} {s : Shared} {R : It → Hp → Prop} {E : Value → Shared → Prop} {lo hi : Int} {t u v : Tok} {tk : Nat} (I : Inv X pins σ H s) (h1 : -(2 ^ 62) ≤ lo) (h2 : lo < 2 ^ 62) (h3 : -(2 ^ 62) ≤ hi) (h4 : hi < 2 ^ 62)
    (q : R (Itr lo (hi - lo).toNat) H) : wpAny (model X.prog X.w) X.A (pyIter (.ref s.heap.objs.size)) (PIE X pins σ tg R) E { s with heap := s.heap.push { cls := .type "range", data := .fields #[.int lo t, .int hi u, .int 1 v] }, toks := tk } := by
  refine wpAny_pyIter_range (IsRange.new ..) (small_one h1 h2 h3 h4) ?_
  have I1 : Inv X pins σ H { s with heap := s.heap.push { cls := .type "range", data := .fields #[.int lo t, .int hi u, .int 1 v] }, toks := tk } := I.kept fun b o e => Heap.get?_push_of_some _ e
  refine ⟨(s.heap.push { cls := .type "range", data := .fields #[.int lo t, .int hi u, .int 1 v] }).objs.size, [(s.heap.push { cls := .type "range", data := .fields #[.int lo t, .int hi u, .int 1 v] }).objs.size], _, _, H, rfl,
    I1.kept (t' := tk) fun b o e => Heap.get?_push_of_some _ e, turn_range _ lo (hi - lo).toNat, ?_, fun b hb => ?_, q⟩
  · have e1 : lo + ((0 : Nat) : Int) * 1 = lo := by simp
    have e2 : (((hi - lo).toNat : Nat) : Int) - ((0 : Nat) : Int) = Builtin.Range.rangeSize lo hi 1 := by rw [rangeSize_one]; split <;> omega
    show IsRangeIter _ _ (lo + ((0 : Nat) : Int) * 1) ((((hi - lo).toNat : Nat) : Int) - ((0 : Nat) : Int)) 1
    rw [e1, e2]
    exact Heap.get?_push_size _ rfl
  · have e : b = (s.heap.push { cls := .type "range", data := .fields #[.int lo t, .int hi u, .int 1 v] }).objs.size := by simpa using hb
    subst e
    exact I1.fpOk (Nat.le_refl _) (I1.hok.fresh (Nat.le_refl _))
def iRng1 (ta : TA) : TI := fun σ H R => ta σ H fun vs H1 => ∃ j : Int, vs = [.int j] ∧ -(2 ^ 62) ≤ j ∧ j < 2 ^ 62 ∧ R (Itr 0 j.toNat) H1
theorem pi_range1 {a : Expr} {ta : TA} {p pos : Pos} (hg : Gl X "range") (hm : X.mg "range" = none) (ha : PA X [a] ta) (hs : starEach [a] X.env = [(false, eval a X.env)] := by rfl) : PI X tg (.Call (.Name "range" p) [a] [] pos) (iRng1 ta) := by
  intro pins s σ H R I h
  refine Call_ (ld_blt I hg hm boot_range (PyProof.Rows.callWith_type1 (thn (ha pos pins s σ H _ I h) fun us s1 ⟨vs, H1, I1, r1, q1⟩ => ?_) hs rfl))
  obtain ⟨j, e, q1, q2, q⟩ := q1
  subst e
  cases r1 with
  | cons r rr =>
    cases rr
    obtain ⟨t, rfl⟩ := r
    exact call_range_1 (range_it I1 (by omega) (by omega) q1 q2 (by simpa using q))
def tFor (wi : TI) (g : TG) (tb : TS) : TS := fun D σ H => wi σ H fun J H1 => ∃ W : Nat → Nat → St → Hp → Prop, (∃ m, W 0 m σ H1) ∧ ∀ i m σ H, W i m σ H →
  (J.stop i H ∧ D.nx σ H) ∨ (J.go i H ∧ ∃ N : St → Hp → Prop, (∀ σ' H', N σ' H' → ∃ m', m' < m ∧ W (i + 1) m' σ' H') ∧ ∀ x H', J.yld i H x H' → g x σ H' fun σ2 H2 => tb { D with nx := N, ct := N, bk := D.nx } σ2 H2)
def pinsAt (fp : List Addr) (h : Heap) : List (Addr × Obj) := fp.filterMap fun b => (h.get? b).map fun o => (b, o)
theorem mem_pinsAt {fp : List Addr} {h : Heap} {b : Addr} {o : Obj} (hb : b ∈ fp) (e : h.get? b = some o) : (b, o) ∈ pinsAt fp h := List.mem_filterMap.mpr ⟨b, hb, by rw [e]; rfl⟩
theorem of_pinsAt {fp : List Addr} {h : Heap} {p : Addr × Obj} (hp : p ∈ pinsAt fp h) : p.1 ∈ fp ∧ h.get? p.1 = some p.2 := by
  obtain ⟨b, hb, e⟩ := List.mem_filterMap.mp hp
  cases q : h.get? b with
  | none => rw [q] at e; cases e
  | some o =>
    rw [q] at e
    have e' : (b, o) = p := Option.some.inj e
    subst e'
    exact ⟨hb, q⟩
theorem Inv.pinned {pins : List (Addr × Obj)} {σ : St} {H : Hp} {s : Shared} {fp : List Addr} (I : Inv X pins σ H s) (hf : ∀ b ∈ fp, FpOk X pins H b) (ho : ∀ b ∈ fp, ∃ o, s.heap.get? b = some o ∧ ∀ v, o.data ≠ .cell v) : Inv X (pins ++ pinsAt fp s.heap) σ H s :=
  I.pins_of fun p hp => (List.mem_append.mp hp).elim (fun z => I.pin p (List.mem_append_right _ z)) fun z => by
    obtain ⟨hb, e⟩ := of_pinsAt z
    obtain ⟨f0, f1, f2, _⟩ := hf p.1 hb
    obtain ⟨o, e', d⟩ := ho p.1 hb
    rw [e] at e'; cases e'
    exact ⟨e, f0, f1, f2, d⟩
theorem Inv.unpinned {pins pl : List (Addr × Obj)} {σ : St} {H : Hp} {s : Shared} (I : Inv X (pins ++ pl) σ H s) : Inv X pins σ H s := I.pins_of fun p hp => I.pin p (List.mem_append_right _ (List.mem_append_left _ hp))
theorem ps_for {iter : Expr} {body : List Stmt} {wi : TI} {g : TG} {tb : TS} {pos : Pos} (hp : PassesOwn (model X.prog X.w) X.A X.env X.xe) (hc : X.calm = true) (hi : PI X tg iter wi) (hg : PG X tg g) (hb : PSs X body tb)
    (hs : ∀ x, foldedSetIterable iter X.env x = pure x := by intro _; rfl) : PS X (.For tg iter body [] pos) (tFor wi g tb) := by
  intro pins s σ H D I h
  refine wpAny_For (thn (hi pins s σ H _ I h) fun v s1 h1 => thn h1 fun itv s2 h2 => ?_) hs
  obtain ⟨it, fp, tn, J, H2, e, I2, T, st2, f2, W, ⟨m0, w0⟩, turn⟩ := h2
  subst e
  have stat : ∀ {H' : Hp}, (∀ b ∈ fp, H' b = none) → ∀ b ∈ fp, FpOk X pins H' b := fun hn b hb => ⟨hn b hb, (f2 b hb).2⟩
  refine codeAny_forLoop_any (fun n s' => ∃ i σ' H', Inv X pins σ' H' s' ∧ tn i s'.heap ∧ (∀ b ∈ fp, H' b = none) ∧ W i n σ' H') ?_ m0 ⟨0, σ, H2, I2, st2, fun b hb => (f2 b hb).1, w0⟩
  rintro n s3 ⟨i, σ3, H3, I3, st3, fr3, w3⟩
  rcases turn i n σ3 H3 w3 with ⟨stop, qn⟩ | ⟨go, N, hN, step⟩
  · refine wpAny_passesOwn hp (thn (T.done X rfl rfl rfl hc i pins s3 σ3 H3 X.xe I3 (stat fr3) st3 stop) fun r s4 ⟨hr, I4⟩ => ?_)
    subst hr
    exact wpAny_execs_nil ⟨σ3, H3, I4, qn⟩
  · refine wpAny_passesOwn hp (thn (T.item X rfl rfl rfl hc i pins s3 σ3 H3 X.xe I3 (stat fr3) st3 go) fun r s4 ⟨u, hr, h4⟩ => ?_)
    subst hr
    refine wpAny_passesOwn hp (thn h4 fun _ s5 ⟨x, H5, I5, r5, y5, st5, fr5⟩ => ?_)
    have I5' := I5.pinned (stat fr5) (T.obj _ _ st5)
    refine wpAny_passesOwn hp (thn (hg _ s5 σ3 H5 x u _ I5' r5 (step x H5 y5)) fun _ s6 ⟨σ6, H6, I6, q6⟩ => ?_)
    refine wpAny_passesOwn hp (thn (hb _ s6 σ6 H6 _ I6 q6) fun f s7 q7 => ?_)
    have again : ∀ {σ7 : St} {H7 : Hp}, Inv X (pins ++ pinsAt fp s5.heap) σ7 H7 s7 → N σ7 H7 → ∃ m, m < n ∧ ∃ i σ' H', Inv X pins σ' H' s7 ∧ tn i s7.heap ∧ (∀ b ∈ fp, H' b = none) ∧ W i m σ' H' := fun {σ7 H7} I7 n7 => by
      obtain ⟨m', hm, w7⟩ := hN σ7 H7 n7
      refine ⟨m', hm, i + 1, σ7, H7, I7.unpinned, T.keep _ _ _ st5 fun b hb o e => (I7.pin (b, o) (List.mem_append_right _ (List.mem_append_right _ (mem_pinsAt hb e)))).1, fun b hb => ?_, w7⟩
      obtain ⟨o, e, d⟩ := T.obj _ _ st5 b hb
      exact (I7.pin (b, o) (List.mem_append_right _ (List.mem_append_right _ (mem_pinsAt hb e)))).2.1
    cases f with
    | next => obtain ⟨σ7, H7, I7, n7⟩ := q7; exact again I7 n7
    | cont => obtain ⟨σ7, H7, I7, n7⟩ := q7; exact again I7 n7
    | brk => obtain ⟨σ7, H7, I7, q7⟩ := q7; exact ⟨σ7, H7, I7.unpinned, q7⟩
    | ret v => obtain ⟨x7, σ7, H7, I7, r7, q7⟩ := q7; exact ⟨x7, σ7, H7, I7.unpinned, r7, q7⟩
end
theorem for_list {K : PySem.W.Frag} {a : Addr} {xs : List V} {g : TG} {tb : TS} {D : Ends} {σ : St} {H : Hp} (Pv : Nat → St → Hp → Prop) (h0 : Pv 0 σ H) (hl : ∀ i σ H, i ≤ xs.length → Pv i σ H → SqL K H a xs)
    (hs : ∀ i x σ H, xs[i]? = some x → Pv i σ H → g x σ H fun σ2 H2 => tb { D with nx := Pv (i + 1), ct := Pv (i + 1), bk := D.nx } σ2 H2) (hd : ∀ σ H, Pv xs.length σ H → D.nx σ H) :
    ∃ W : Nat → Nat → St → Hp → Prop, (∃ m, W 0 m σ H) ∧ ∀ i m σ H, W i m σ H →
      ((Itl K a).stop i H ∧ D.nx σ H) ∨ ((Itl K a).go i H ∧ ∃ N : St → Hp → Prop, (∀ σ' H', N σ' H' → ∃ m', m' < m ∧ W (i + 1) m' σ' H') ∧ ∀ x H', (Itl K a).yld i H x H' → g x σ H' fun σ2 H2 => tb { D with nx := N, ct := N, bk := D.nx } σ2 H2) := by
  refine ⟨fun i m σ H => m = xs.length - i ∧ i ≤ xs.length ∧ Pv i σ H, ⟨xs.length, by simp, Nat.zero_le _, h0⟩, ?_⟩
  rintro i m σ H ⟨rfl, hi, p⟩
  have q := hl i σ H hi p
  by_cases hlt : i < xs.length
  · refine .inr ⟨⟨xs, xs[i], q, by simp [hlt]⟩, Pv (i + 1), fun σ' H' p' => ⟨xs.length - (i + 1), by omega, rfl, hlt, p'⟩, fun x H' y => ?_⟩
    obtain ⟨e, y⟩ := y
    subst e
    exact hs i x σ _ (y xs q) p
  · have e : i = xs.length := by omega
    subst e
    exact .inl ⟨⟨xs, q, Nat.le_refl _⟩, hd σ H p⟩
theorem for_range {lo : Int} {n : Nat} {g : TG} {tb : TS} {D : Ends} {σ : St} {H : Hp} (Pv : Nat → St → Hp → Prop) (h0 : Pv 0 σ H)
    (hs : ∀ i σ H, i < n → Pv i σ H → g (.int (lo + i)) σ H fun σ2 H2 => tb { D with nx := Pv (i + 1), ct := Pv (i + 1), bk := D.nx } σ2 H2) (hd : ∀ σ H, Pv n σ H → D.nx σ H) :
    ∃ W : Nat → Nat → St → Hp → Prop, (∃ m, W 0 m σ H) ∧ ∀ i m σ H, W i m σ H →
      ((Itr lo n).stop i H ∧ D.nx σ H) ∨ ((Itr lo n).go i H ∧ ∃ N : St → Hp → Prop, (∀ σ' H', N σ' H' → ∃ m', m' < m ∧ W (i + 1) m' σ' H') ∧ ∀ x H', (Itr lo n).yld i H x H' → g x σ H' fun σ2 H2 => tb { D with nx := N, ct := N, bk := D.nx } σ2 H2) := by
  refine ⟨fun i m σ H => m = n - i ∧ i ≤ n ∧ Pv i σ H, ⟨n, by simp, Nat.zero_le _, h0⟩, ?_⟩
  rintro i m σ H ⟨rfl, hi, p⟩
  by_cases hlt : i < n
  · refine .inr ⟨hlt, Pv (i + 1), fun σ' H' p' => ⟨n - (i + 1), by omega, rfl, hlt, p'⟩, fun x H' y => ?_⟩
    obtain ⟨e, y⟩ := y
    subst e y
    exact hs i σ _ hlt p
  · have e : i = n := by omega
    subst e
    exact .inl ⟨Nat.le_refl _, hd σ H p⟩
abbrev R2 := V → V → Hp → VK → Prop
def OpR (X : Cx) (f : Value → Value → Sem Value) (r : R2) : Prop :=
  ∀ (pins : List (Addr × Obj)) (s : Shared) (σ : St) (H : Hp) (x y : V) (v u : Value) (Q : VK), Inv X pins σ H s → RelV x v → RelV y u → r x y H Q →
    wpAny (model X.prog X.w) X.A (f v u) (EP X pins σ Q) X.xe s
def CallR (X : Cx) (f : Value) (r : List V → Hp → VK → Prop) : Prop :=
  ∀ (pins : List (Addr × Obj)) (s : Shared) (σ : St) (H : Hp) (xs : List V) (us : List Value) (Q : VK), Inv X pins σ H s → Vals xs us → r xs H Q →
    wpAny (model X.prog X.w) X.A (call f us) (EP X pins σ Q) X.xe s
def TruR (X : Cx) (r : V → Hp → (Bool → Hp → Prop) → Prop) : Prop :=
  ∀ (pins : List (Addr × Obj)) (s : Shared) (σ : St) (H : Hp) (x : V) (v : Value) (Q : Bool → Hp → Prop), Inv X pins σ H s → RelV x v → r x H Q →
    wpAny (model X.prog X.w) X.A (truthy v) (TP X pins σ Q) X.xe s
def tOp (r : R2) (ta tb : TE) : TE := fun σ H Q => ta σ H fun x H1 => tb σ H1 fun y H2 => r x y H2 Q
def rI (C : Int → Int → Prop) (g : Int → Int → V) : R2 := fun x y H Q => ∃ i j, x = .int i ∧ y = .int j ∧ C i j ∧ Q (g i j) H
def rI0 (g : Int → Int → V) : R2 := fun x y H Q => ∃ i j, x = .int i ∧ y = .int j ∧ Q (g i j) H
section
variable {X : Cx} {a b c : Expr} {ta tb tc : TE} {pos : Pos}
theorem binT (ha : PE X a ta) (hb : PE X b tb) {pins : List (Addr × Obj)} {s : Shared} {σ : St} {H : Hp} {R : V → V → Hp → Prop} (I : Inv X pins σ H s)
    (h : ta σ H fun x H1 => tb σ H1 fun y H2 => R x y H2) {Q : Value → Shared → Prop} {f : Value → Value → Sem Value}
    (hf : ∀ v u s2 x y H2, Inv X pins σ H2 s2 → RelV x v → RelV y u → R x y H2 → wpAny (model X.prog X.w) X.A (f v u) Q X.xe s2) :
    wpAny (model X.prog X.w) X.A (eval a X.env) (fun v s₁ => wpAny (model X.prog X.w) X.A (eval b X.env) (fun u s₂ => wpAny (model X.prog X.w) X.A (f v u) Q X.xe s₂) X.xe s₁) X.xe s := by
  refine thn (ha pins s σ H _ I h) fun v s1 ⟨x, H1, I1, r1, q1⟩ => ?_
  refine thn (hb pins s1 σ H1 _ I1 q1) fun u s2 ⟨y, H2, I2, r2, q2⟩ => ?_
  exact hf v u s2 x y H2 I2 r1 r2 q2
theorem pe_op {op : Operator} {r : R2} (ho : OpR X (binaryOp op) r) (ha : PE X a ta) (hb : PE X b tb) : PE X (.BinOp a op b pos) (tOp r ta tb) := by
  intro pins s σ H Q I h
  exact wpAny_BinOp (binT ha hb I h fun v u s2 x y H2 I2 rx ry q => ho pins s2 σ H2 x y v u Q I2 rx ry q)
theorem opI {f : Value → Value → Sem Value} {C : Int → Int → Prop} {g : Int → Int → Int}
    (rule : ∀ (i j : Int) (t u : Tok) (s : Shared) (Q : Value → Shared → Prop) (E : Value → Shared → Prop), C i j → Q (.int (g i j) s.toks) { s with toks := s.toks + 1 } → wpAny (model X.prog X.w) X.A (f (.int i t) (.int j u)) Q E s) :
    OpR X f (rI C fun i j => .int (g i j)) := by
  intro pins s σ H x y v u Q I rx ry h
  obtain ⟨i, j, rfl, rfl, hc, q⟩ := h
  obtain ⟨t, rfl⟩ := rx
  obtain ⟨t', rfl⟩ := ry
  exact rule i j t t' s _ _ hc ⟨.int (g i j), H, I.tok _, ⟨_, rfl⟩, q⟩
theorem opI0 {f : Value → Value → Sem Value} {g : Int → Int → Int}
    (rule : ∀ (i j : Int) (t u : Tok) (s : Shared) (Q : Value → Shared → Prop) (E : Value → Shared → Prop), Q (.int (g i j) s.toks) { s with toks := s.toks + 1 } → wpAny (model X.prog X.w) X.A (f (.int i t) (.int j u)) Q E s) :
    OpR X f (rI0 fun i j => .int (g i j)) := by
  intro pins s σ H x y v u Q I rx ry h
  obtain ⟨i, j, rfl, rfl, q⟩ := h
  obtain ⟨t, rfl⟩ := rx
  obtain ⟨t', rfl⟩ := ry
  exact rule i j t t' s _ _ ⟨.int (g i j), H, I.tok _, ⟨_, rfl⟩, q⟩
theorem opB0 {f : Value → Value → Sem Value} {g : Int → Int → Bool}
    (rule : ∀ (i j : Int) (t u : Tok) (s : Shared) (Q : Value → Shared → Prop) (E : Value → Shared → Prop), Q (.bool (g i j)) s → wpAny (model X.prog X.w) X.A (f (.int i t) (.int j u)) Q E s) :
    OpR X f (rI0 fun i j => .bl (g i j)) := by
  intro pins s σ H x y v u Q I rx ry h
  obtain ⟨i, j, rfl, rfl, q⟩ := h
  obtain ⟨t, rfl⟩ := rx
  obtain ⟨t', rfl⟩ := ry
  exact rule i j t t' s _ _ ⟨.bl (g i j), H, I, rfl, q⟩
def CPow (i j : Int) : Prop := 0 ≤ j ∧ j ≤ 1000000 ∧ i.natAbs < 2 ^ 64
theorem op_add : OpR X (binaryOp .Add) (rI0 fun i j => .int (i + j)) := opI0 fun _ _ _ _ _ _ _ q => add_int q
theorem op_sub : OpR X (binaryOp .Sub) (rI0 fun i j => .int (i - j)) := opI0 fun _ _ _ _ _ _ _ q => sub_int q
theorem op_mod : OpR X (binaryOp .Mod) (rI (fun _ j => 0 < j) fun i j => .int (i % j)) := opI fun i j _ _ _ _ _ hc q => by
  have h1 : (0 : Int) < j := hc
  exact mod_int' (by omega) (by rw [Int.fmod_eq_emod_of_nonneg i (by omega)]; exact q)
theorem op_pow : OpR X (binaryOp .Pow) (rI CPow fun i j => .int (i ^ j.toNat)) := opI fun _ _ _ _ _ _ _ hc q => pow_int_small hc.1 hc.2.1 hc.2.2 q
end
def scal : V → V → Bool
  | .non, .non => true | .non, .int _ => true | .int _, .non => true | .non, .bl _ => true | .bl _, .non => true | .non, .str _ => true | .str _, .non => true
  | .int _, .int _ => true | .bl _, .bl _ => true | .str _, .str _ => true | .byt _, .byt _ => true
  | .int _, .str _ => true | .str _, .int _ => true | .bl _, .str _ => true | .str _, .bl _ => true
  | _, _ => false
def rEq : R2 := fun x y H Q => scal x y = true ∧ Q (.bl (decide (x = y))) H
def rNe : R2 := fun x y H Q => scal x y = true ∧ Q (.bl (!decide (x = y))) H
theorem dec_int {i j : Int} : decide (V.int i = V.int j) = (i == j) := by
  rw [Bool.eq_iff_iff]
  simp
theorem dec_bl {i j : Bool} : decide (V.bl i = V.bl j) = (i == j) := by
  rw [Bool.eq_iff_iff]
  simp
theorem dec_str {i j : Str} : decide (V.str i = V.str j) = (i == j) := by
  rw [Bool.eq_iff_iff]
  simp
theorem dec_byt {i j : Array UInt8} : decide (V.byt i = V.byt j) = (i.toList == j.toList) := by
  rw [Bool.eq_iff_iff]
  cases i
  cases j
  simp
section
variable {X : Cx} {a b c : Expr} {ta tb tc : TE} {pos : Pos}
theorem fin_bl {pins : List (Addr × Obj)} {σ : St} {H : Hp} {s : Shared} {Q : VK} {k k' : Bool} (I : Inv X pins σ H s) (q : Q (.bl k) H) (e : k = k') : EP X pins σ Q (.bool k') s := by
  subst e
  exact ⟨.bl k, H, I, rfl, q⟩
theorem op_eq : OpR X (compareOp .Eq) rEq := by
  intro pins s σ H x y v u Q I rx ry h
  obtain ⟨hs, q⟩ := h
  cases x with
  | non =>
    cases rx
    cases y with
    | non => cases ry; exact PySem.EqNone.eq_none_none (fin_bl I q (by simp))
    | bl j => cases ry; exact PySem.EqNone.eq_none_bool (fin_bl I q (by simp))
    | int j => obtain ⟨t', rfl⟩ := ry; exact PySem.EqNone.eq_none_int (fin_bl I q (by simp))
    | str j => obtain ⟨t', rfl⟩ := ry; exact PySem.EqNone.eq_none_str (fin_bl I q (by simp))
    | _ => exact absurd (show false = true from hs) Bool.false_ne_true
  | bl i =>
    cases rx
    cases y with
    | non => cases ry; exact PySem.EqNone.eq_bool_none (fin_bl I q (by simp))
    | bl j => cases ry; exact eq_bool (fin_bl I q dec_bl)
    | str j => obtain ⟨t', rfl⟩ := ry; exact PySem.EqMixed.eq_bool_str (fin_bl I q (by simp))
    | _ => exact absurd (show false = true from hs) Bool.false_ne_true
  | int i =>
    obtain ⟨t, rfl⟩ := rx
    cases y with
    | non => cases ry; exact PySem.EqNone.eq_int_none (fin_bl I q (by simp))
    | int j => obtain ⟨t', rfl⟩ := ry; exact eq_int (fin_bl I q dec_int)
    | str j => obtain ⟨t', rfl⟩ := ry; exact PySem.EqMixed.eq_int_str (fin_bl I q (by simp))
    | _ => exact absurd (show false = true from hs) Bool.false_ne_true
  | str i =>
    obtain ⟨t, rfl⟩ := rx
    cases y with
    | non => cases ry; exact PySem.EqNone.eq_str_none (fin_bl I q (by simp))
    | bl j => cases ry; exact PySem.EqMixed.eq_str_bool (fin_bl I q (by simp))
    | int j => obtain ⟨t', rfl⟩ := ry; exact PySem.EqMixed.eq_str_int (fin_bl I q (by simp))
    | str j => obtain ⟨t', rfl⟩ := ry; exact eq_str (fin_bl I q dec_str)
    | _ => exact absurd (show false = true from hs) Bool.false_ne_true
  | byt i =>
    obtain ⟨t, rfl⟩ := rx
    cases y with
    | byt j => obtain ⟨t', rfl⟩ := ry; exact PySem.W.eq_bytes (fin_bl I q dec_byt)
    | _ => exact absurd (show false = true from hs) Bool.false_ne_true
  | _ => cases y <;> exact absurd (show false = true from hs) Bool.false_ne_true
theorem op_ne : OpR X (compareOp .NotEq) rNe := by
  intro pins s σ H x y v u Q I rx ry h
  obtain ⟨hs, q⟩ := h
  cases x with
  | non =>
    cases rx
    cases y with
    | non => cases ry; exact PySem.EqNone.ne_none_none (fin_bl I q (by simp))
    | bl j => cases ry; exact PySem.EqNone.ne_none_bool (fin_bl I q (by simp))
    | int j => obtain ⟨t', rfl⟩ := ry; exact PySem.EqNone.ne_none_int (fin_bl I q (by simp))
    | str j => obtain ⟨t', rfl⟩ := ry; exact PySem.EqNone.ne_none_str (fin_bl I q (by simp))
    | _ => exact absurd (show false = true from hs) Bool.false_ne_true
  | bl i =>
    cases rx
    cases y with
    | non => cases ry; exact PySem.EqNone.ne_bool_none (fin_bl I q (by simp))
    | bl j => cases ry; exact ne_bool (fin_bl I q (congrArg not dec_bl))
    | str j => obtain ⟨t', rfl⟩ := ry; exact PySem.EqMixed.ne_bool_str (fin_bl I q (by simp))
    | _ => exact absurd (show false = true from hs) Bool.false_ne_true
  | int i =>
    obtain ⟨t, rfl⟩ := rx
    cases y with
    | non => cases ry; exact PySem.EqNone.ne_int_none (fin_bl I q (by simp))
    | int j => obtain ⟨t', rfl⟩ := ry; exact ne_int (fin_bl I q (congrArg not dec_int))
    | str j => obtain ⟨t', rfl⟩ := ry; exact PySem.EqMixed.ne_int_str (fin_bl I q (by simp))
    | _ => exact absurd (show false = true from hs) Bool.false_ne_true
  | str i =>
    obtain ⟨t, rfl⟩ := rx
    cases y with
    | non => cases ry; exact PySem.EqNone.ne_str_none (fin_bl I q (by simp))
    | bl j => cases ry; exact PySem.EqMixed.ne_str_bool (fin_bl I q (by simp))
    | int j => obtain ⟨t', rfl⟩ := ry; exact PySem.EqMixed.ne_str_int (fin_bl I q (by simp))
    | str j => obtain ⟨t', rfl⟩ := ry; exact ne_str (fin_bl I q (congrArg not dec_str))
    | _ => exact absurd (show false = true from hs) Bool.false_ne_true
  | byt i =>
    obtain ⟨t, rfl⟩ := rx
    cases y with
    | byt j => obtain ⟨t', rfl⟩ := ry; exact PySem.W.ne_bytes (fin_bl I q (congrArg not dec_byt))
    | _ => exact absurd (show false = true from hs) Bool.false_ne_true
  | _ => cases y <;> exact absurd (show false = true from hs) Bool.false_ne_true
theorem op_lt : OpR X (compareOp .Lt) (rI0 fun i j => .bl (decide (i < j))) := opB0 fun _ _ _ _ _ _ _ q => lt_int q
theorem op_le : OpR X (compareOp .LtE) (rI0 fun i j => .bl (decide (i ≤ j))) := opB0 fun _ _ _ _ _ _ _ q => le_int q
theorem op_gt : OpR X (compareOp .Gt) (rI0 fun i j => .bl (decide (j < i))) := opB0 fun _ _ _ _ _ _ _ q => gt_int q
theorem op_isN : OpR X (compareOp .Is) (fun x y H Q => y = .non ∧ Q (.bl (decide (x = .non))) H) := by
  intro pins s σ H x y v u Q I rx ry h
  obtain ⟨rfl, q⟩ := h
  cases ry
  refine is_none_gen (fin_bl I q ?_)
  cases x <;> first
    | (cases rx; rfl)
    | (obtain ⟨t, rfl⟩ := rx; rfl)
theorem OpR.or {f : Value → Value → Sem Value} {r r' : R2} (h : OpR X f r) (h' : OpR X f r') : OpR X f (fun x y H Q => r x y H Q ∨ r' x y H Q) := by
  intro pins s σ H x y v u Q I rx ry q
  rcases q with q | q
  · exact h pins s σ H x y v u Q I rx ry q
  · exact h' pins s σ H x y v u Q I rx ry q
theorem nomark (b : Expr) {op : CmpOp} (h : op ≠ .In := by decide) (h2 : op ≠ .NotIn := by decide) : behindInMarks op b = false := by
  have e1 : (op == CmpOp.In) = false := by cases op <;> first | rfl | exact absurd rfl h
  have e2 : (op == CmpOp.NotIn) = false := by cases op <;> first | rfl | exact absurd rfl h2
  cases b <;> simp [behindInMarks, e1, e2]
theorem pe_cmpR {op : CmpOp} {r : R2} (ho : OpR X (compareOp op) r) (ha : PE X a ta) (hb : PE X b tb) (hm : behindInMarks op b = false) : PE X (.Compare a [op] [b] pos) (tOp r ta tb) := by
  intro pins s σ H Q I h
  exact wpAny_Compare1 (binT ha hb I h fun v u s2 x y H2 I2 rx ry q => ho pins s2 σ H2 x y v u Q I2 rx ry q) hm
def tTest (t : TE) : TT := fun σ H Q => t σ H fun x H' => ∃ k, x = .bl k ∧ Q k H'
theorem pt_cmpR {op : CmpOp} {r : R2} (ho : OpR X (compareOp op) r) (ha : PE X a ta) (hb : PE X b tb) (hm : behindInMarks op b = false) : PT X (.Compare a [op] [b] pos) (tTest (tOp r ta tb)) := by
  intro pins s σ H Q I h
  refine wpAny_isTrue_Compare1 (thn (ha pins s σ H _ I h) fun v s1 ⟨x, H1, I1, r1, q1⟩ => thn (hb pins s1 σ H1 _ I1 q1) fun u s2 ⟨y, H2, I2, r2, q2⟩ =>
    thn (ho pins s2 σ H2 x y v u _ I2 r1 r2 q2) fun c s3 ⟨z, H3, I3, r3, k, e, q3⟩ => ?_) hm
  subst e
  cases r3
  exact wpAny_truthy_bool ⟨H3, I3, q3⟩
def TruV (K : PySem.W.Frag) (x : V) (H : Hp) (k : Bool) : Prop :=
  match x with
  | .non => k = false
  | .bl b => k = b
  | .int i => k = (i != 0)
  | .str y => y.length ≤ sizeLine ∧ k = ((y.length : Int) != 0)
  | .byt y => y.size ≤ sizeLine ∧ k = ((y.size : Int) != 0)
  | .ref p => (∃ xs, SqL K H p xs ∧ k = !xs.isEmpty) ∨ (∃ xs, SqT K H p xs ∧ k = !xs.isEmpty) ∨ ∃ kvs, H p = some (.dK kvs) ∧ k = !kvs.isEmpty
  | _ => False
theorem isEmpty_kv {κ : Type} {kvs : List (κ × V)} {vs : List (κ × Value)} (r : KV kvs vs) : (!vs.isEmpty) = !kvs.isEmpty := by
  cases r <;> rfl
theorem isEmpty_of {xs : List V} {its : List Value} (r : Vals xs its) : (!its.toArray.isEmpty) = !xs.isEmpty := by
  cases r <;> simp
theorem line63 : (sizeLine : Nat) < 2 ^ 63 := by rw [sizeLine_eq]; decide
theorem tru_ok : TruR X (fun x H Q => ∃ k, TruV X.K x H k ∧ Q k H) := by
  intro pins s σ H x v Q I rx h
  obtain ⟨k, e, q⟩ := h
  have hl := line63
  have hs : sizeLine = 16777216 := sizeLine_eq
  cases x with
  | non =>
    cases rx
    have e' : k = false := e
    subst e'
    exact truthy_none ⟨H, I, q⟩
  | bl b =>
    cases rx
    have e' : k = b := e
    subst e'
    exact wpAny_truthy_bool ⟨H, I, q⟩
  | int i =>
    obtain ⟨t, rfl⟩ := rx
    have e' : k = (i != 0) := e
    subst e'
    exact PySem.P.truthy_int ⟨H, I, q⟩
  | str y =>
    obtain ⟨t, rfl⟩ := rx
    obtain ⟨hy, e'⟩ : y.length ≤ sizeLine ∧ k = ((y.length : Int) != 0) := e
    subst e'
    exact PySem.P.truthy_str (by omega) ⟨H, I.tok _, q⟩
  | byt y =>
    obtain ⟨t, rfl⟩ := rx
    obtain ⟨hy, e'⟩ : y.size ≤ sizeLine ∧ k = ((y.size : Int) != 0) := e
    subst e'
    exact PySem.W.truthy_bytes (by omega) ⟨H, I.tok _, q⟩
  | ref p =>
    cases rx
    have e' : (∃ xs, SqL X.K H p xs ∧ k = !xs.isEmpty) ∨ (∃ xs, SqT X.K H p xs ∧ k = !xs.isEmpty) ∨ ∃ kvs, H p = some (.dK kvs) ∧ k = !kvs.isEmpty := e
    rcases e' with ⟨xs, hx, e'⟩ | ⟨xs, hx, e'⟩ | ⟨kvs, hx, e'⟩
    · subst e'
      obtain ⟨its, r, pl, hz⟩ := I.list hx
      have hlen := r.length
      exact wpAny_truthy_list pl.isList (by simp only [List.size_toArray]; omega) ⟨H, I.tok _, by rw [isEmpty_of r]; exact q⟩
    · subst e'
      obtain ⟨its, r, pl, hz⟩ := I.tuple hx
      have hlen := r.length
      exact truthy_tuple pl (by simp only [List.size_toArray]; omega) ⟨H, I.tok _, by rw [isEmpty_of r]; exact q⟩
    · subst e'
      obtain ⟨hz, hS, vs, r, m⟩ : kvs.length ≤ sizeLine ∧ (p == sysModules) = false ∧ ∃ vs, KV kvs vs ∧ s.heap.DictOf (mixKind X.prog X.w) p vs := I.hok p _ hx
      have hlen : kvs.length = vs.length := Paired.length r
      exact wpAny_truthy_dict hS m (by omega) ⟨H, I.tok _, by rw [isEmpty_kv r]; exact q⟩
  | _ => exact (show False from e).elim
theorem pt_truth (ha : PE X a ta) (he : ∀ whole, isTrue a X.env whole = (do let v ← whole; standAt a.pos; holding [v] (truthy v))) :
    PT X a (fun σ H Q => ta σ H fun x H' => ∃ k, TruV X.K x H' k ∧ Q k H') := by
  intro pins s σ H Q I h
  exact isTrue_plain (thn (ha pins s σ H _ I h) fun v s1 ⟨x, H1, I1, r1, q1⟩ => tru_ok pins s1 σ H1 x v Q I1 r1 q1) (he _)
theorem op_add_str : OpR X (binaryOp .Add) (fun x y H Q => ∃ i j, x = .str i ∧ y = .str j ∧ i.length + j.length ≤ sizeLine ∧ Q (.str (i ++ j)) H) := by
  intro pins s σ H x y v u Q I rx ry h
  obtain ⟨i, j, rfl, rfl, hz, q⟩ := h
  obtain ⟨t, rfl⟩ := rx
  obtain ⟨t', rfl⟩ := ry
  exact add_str (fun t' tk => ⟨.str (i ++ j), H, I.tok _, ⟨_, rfl⟩, q⟩) hz
theorem vals1 {x : V} {us : List Value} (r : Vals [x] us) : ∃ u, us = [u] ∧ RelV x u := by
  cases r with
  | cons r1 r2 => cases r2; exact ⟨_, rfl, r1⟩
theorem vals2 {x y : V} {us : List Value} (r : Vals [x, y] us) : ∃ u w', us = [u, w'] ∧ RelV x u ∧ RelV y w' := by
  cases r with
  | cons r1 r2 =>
    cases r2 with
    | cons r3 r4 => cases r4; exact ⟨_, _, rfl, r1, r3⟩
theorem call_abs : CallR X (.builtin "abs") (fun xs H Q => ∃ i, xs = [.int i] ∧ Q (.int (if i < 0 then -i else i)) H) := by
  intro pins s σ H xs us Q I r h
  obtain ⟨i, rfl, q⟩ := h
  obtain ⟨u, rfl, t, rfl⟩ := vals1 r
  exact call_abs_int fun u tk => ⟨.int (if i < 0 then -i else i), H, I.tok _, ⟨_, rfl⟩, q⟩
theorem call_max2 (hc : X.calm = true) : CallR X (.builtin "max") (fun xs H Q => ∃ i j, xs = [.int i, .int j] ∧ Q (.int (if j > i then j else i)) H) := by
  intro pins s σ H xs us Q I r h
  obtain ⟨i, j, rfl, q⟩ := h
  obtain ⟨u, w', rfl, ⟨t, rfl⟩, ⟨t', rfl⟩⟩ := vals2 r
  refine max_two_ints (I.ok.hd hc) fun h' tk k => ⟨_, H, I.kept k, ?_, q⟩
  by_cases hj : j > i
  · rw [if_pos hj, if_pos hj]; exact ⟨_, rfl⟩
  · rw [if_neg hj, if_neg hj]; exact ⟨_, rfl⟩
theorem call_min2 (hc : X.calm = true) : CallR X (.builtin "min") (fun xs H Q => ∃ i j, xs = [.int i, .int j] ∧ Q (.int (if j < i then j else i)) H) := by
  intro pins s σ H xs us Q I r h
  obtain ⟨i, j, rfl, q⟩ := h
  obtain ⟨u, w', rfl, ⟨t, rfl⟩, ⟨t', rfl⟩⟩ := vals2 r
  refine min_two_ints (I.ok.hd hc) fun h' tk k => ⟨_, H, I.kept k, ?_, q⟩
  by_cases hj : j < i
  · rw [if_pos hj, if_pos hj]; exact ⟨_, rfl⟩
  · rw [if_neg hj, if_neg hj]; exact ⟨_, rfl⟩
theorem call_int1 : CallR X (.type "int") (fun xs H Q => (∃ i, xs = [.int i] ∧ Q (.int i) H) ∨ ∃ k, xs = [.bl k] ∧ Q (.int (if k then 1 else 0)) H) := by
  intro pins s σ H xs us Q I r h
  rcases h with ⟨i, rfl, q⟩ | ⟨k, rfl, q⟩
  · obtain ⟨u, rfl, t, rfl⟩ := vals1 r
    exact call_int_int ⟨.int i, H, I, ⟨_, rfl⟩, q⟩
  · obtain ⟨u, rfl, r1⟩ := vals1 r
    cases r1
    exact call_int_bool ⟨.int (if k then 1 else 0), H, I.tok _, ⟨_, rfl⟩, q⟩
def LenV (K : PySem.W.Frag) (x : V) (H : Hp) (n : Nat) : Prop :=
  match x with
  | .str y => y.length ≤ sizeLine ∧ n = y.length
  | .byt y => y.size ≤ sizeLine ∧ n = y.size
  | .ref p => (∃ xs, SqL K H p xs ∧ n = xs.length) ∨ ∃ xs, SqT K H p xs ∧ n = xs.length
  | _ => False
theorem call_len : CallR X (.builtin "len") (fun xs H Q => ∃ x n, xs = [x] ∧ LenV X.K x H n ∧ Q (.int n) H) := by
  intro pins s σ H xs us Q I r h
  obtain ⟨x, n, rfl, e, q⟩ := h
  obtain ⟨u, rfl, rx⟩ := vals1 r
  have hl := line63
  have hs : sizeLine = 16777216 := sizeLine_eq
  cases x with
  | str y =>
    obtain ⟨t, rfl⟩ := rx
    obtain ⟨hy, e'⟩ : y.length ≤ sizeLine ∧ n = y.length := e
    subst e'
    exact len_str (by omega) ⟨.int _, H, I.tok _, ⟨_, rfl⟩, q⟩
  | byt y =>
    obtain ⟨t, rfl⟩ := rx
    obtain ⟨hy, e'⟩ : y.size ≤ sizeLine ∧ n = y.size := e
    subst e'
    exact PySem.W.len_bytes (by omega) ⟨.int _, H, I.tok _, ⟨_, rfl⟩, q⟩
  | ref p =>
    cases rx
    have e' : (∃ xs, SqL X.K H p xs ∧ n = xs.length) ∨ ∃ xs, SqT X.K H p xs ∧ n = xs.length := e
    rcases e' with ⟨xs, hx, e'⟩ | ⟨xs, hx, e'⟩
    · subst e'
      obtain ⟨its, r', pl, hz⟩ := I.list hx
      have hlen := r'.length
      exact Calls.call_len_list pl.isList (by simp only [List.size_toArray]; omega) ⟨.int xs.length, H, I.tok _, ⟨_, by simp only [List.size_toArray]; rw [hlen]⟩, q⟩
    · subst e'
      obtain ⟨its, r', pl, hz⟩ := I.tuple hx
      have hlen := r'.length
      exact len_tuple pl (by simp only [List.size_toArray]; omega) ⟨.int xs.length, H, I.tok _, ⟨_, by simp only [List.size_toArray]; rw [hlen]⟩, q⟩
  | _ => exact (show False from e).elim
end
structure ObjM (h : Heap) (x dx C : Addr) (mA : Str → Option Value) : Prop where
  obj : h.get? x = some (PySem.W.instObj C dx)
  ns : h.Ns1 dx mA
  ne : dx ≠ x
theorem lookIn_ns {h : Heap} {dx : Addr} {mA : Str → Option Value} (n : h.Ns1 dx mA) : ∃ od, h.get? dx = some od ∧ ∀ name, PySem.W.lookIn name od = some (mA name) := by
  obtain ⟨o, es, ep, ho, hd, hk, _, hm⟩ := n
  refine ⟨o, ho, fun name => ?_⟩
  have e := hm name
  unfold nsFind findBy at e
  rw [← Array.find?_toList] at e
  unfold PySem.W.lookIn
  rw [hd]
  dsimp only
  split
  · rename_i y q
    rw [q] at e
    exact congrArg some e
  · rename_i q
    rw [q] at e
    have a : es.toList.any (·.refKey) = false := by
      rw [List.any_eq_false]
      intro y hy
      obtain ⟨z, t, hkey⟩ := hk y (Array.mem_toList_iff.mp hy)
      simp [DictEntry.refKey, hkey]
    have a' : ¬ es.toList.any (·.refKey) = true := by rw [a]; exact Bool.false_ne_true
    rw [if_neg a']
    exact congrArg some e
theorem ObjM.look {h : Heap} {x dx C : Addr} {mA : Str → Option Value} (I : ObjM h x dx C mA) : ∃ od, PySem.W.InstAt h x (PySem.W.instObj C dx) C (some od) ∧ ∀ name, PySem.W.lookIn name od = some (mA name) :=
  let ⟨od, ho, hl⟩ := lookIn_ns I.ns
  ⟨od, ⟨I.obj, rfl, rfl, ho⟩, hl⟩
section
variable {prog : Program} {w : World} {A : Around} {E : Value → Shared → Prop} {s : Shared} {K : PySem.W.Frag} {x dx C f : Addr} {mA : Str → Option Value} {name : Str} {v : Value}
theorem get_map {expr : Bool} {Q : Value → Shared → Prop} (X : K.In s.heap) (I : ObjM s.heap x dx C mA) (hg : PySem.W.plainGet K C name = true) (hh : PySem.W.hasDictIn K C = true)
    (ha : PySem.W.findIn K (.ref C) name = some none) (hv : mA name = some v) (hv' : PySem.W.handedIn v = true) (h : Q v { s with toks := s.toks + 1 }) :
    wpAny (model prog w) A (getAttr (.ref x) name expr) Q E s := by
  obtain ⟨od, J, hl⟩ := I.look
  exact PySem.W.get_value X J (PySem.W.plainGet_of hg).1 (PySem.W.findObj_own hh ha rfl (by rw [hl, hv])) hv' h
theorem get_meth {pl : Sem Bool} {Q : Value × List Value → Shared → Prop} (X : K.In s.heap) (I : ObjM s.heap x dx C mA) (hg : PySem.W.plainGet K C name = true)
    (hf : PySem.W.findIn K (.ref C) name = some (some (.ref f))) (ht : PySem.W.isFn K (.ref f) = true) (hv : mA name = none) (h : Q (.ref f, [.ref x]) s) :
    wpAny (model prog w) A (getMethod (.ref x) name pl) Q E s := by
  obtain ⟨od, J, hl⟩ := I.look
  exact PySem.W.method_fn X J (PySem.W.plainGet_of hg).1 (PySem.W.plainGet_of hg).2 hf (beq_iff_eq.mp ht) (by show (PySem.W.lookIn name od).map (·.isSome) = some false; rw [hl, hv]; rfl) h
theorem set_map {ns : List Str} {Q : Unit → Shared → Prop} (X : K.In s.heap) (I : ObjM s.heap x dx C mA)
    (hs : PySem.W.findIn K (.ref C) "__setattr__" = some (some (.builtin "object.__setattr__"))) (hp : PySem.W.plainOver K C = true) (ht : PySem.W.takerIn K C name = some none) (hh : PySem.W.hasDictIn K C = true)
    (hw : PySem.Within mA ns) (hsz : ns.length ≤ sizeLine)
    (h : ∀ h', ObjM h' x dx C (fun y => if y = name then some v else mA y) → Heap.SameBut dx s.heap h' → Q () { s with heap := h', toks := s.toks + 2 }) :
    wpAny (model prog w) A (setAttr (.ref x) name v) Q E s := by
  obtain ⟨od, J, hl⟩ := I.look
  refine PySem.W.set_plain X J hs (PySem.W.osa_open (s := { s with toks := s.toks + 1 }) (r := none) X J hp ht fun b => ?_)
  obtain ⟨cd, hc, hd'⟩ := PySem.W.any_some hh
  have hx : s.heap.get? x = some ⟨.ref C, some dx, .plain, #[]⟩ := I.obj
  refine wpAny_bind (wpAny_pure (wpAny_bind (wpAny_bind (wpAny_loadPart hx (wpAny_bind (PySem.W.Looks.here (s := { s with toks := s.toks + 1 }) (PySem.W.looks_clsIn X hc) ?_))))))
  rw [hd']
  refine wpAny_pure (a := some dx) (wpAny_bind (wpAny_pure (wpAny_bind ?_)))
  refine wpAny_nsSet1 (s := { s with toks := s.toks + 1 }) I.ns fun h' hn2 hs2 => ?_
  obtain ⟨oD, esD, epD, hoD, hdD, hcD⟩ := hn2.count (PySem.Within.cons name v hw)
  refine wpAny_bind (wpAny_lookBehind hoD (by rw [hdD]; exact pastItsLine_dict (Nat.le_trans hcD (by rw [List.length_cons]; omega))) ?_)
  exact wpAny_pure (h _ ⟨(hs2.2 _ (Ne.symm I.ne)).trans I.obj, hn2, I.ne⟩ hs2)
theorem make_map {R : Result → Shared → Prop} {vs : List Value} {kw : List (Str × Value)} (X : K.In s.heap) (hm : PySem.W.makesIn K C = true)
    (hi : PySem.W.findIn K (.ref C) "__init__" = some (some (.ref f))) (hf : PySem.W.typeIn K (.ref f) = some (.type "function"))
    (h : codeAny (model prog w) (A.under (.builtin "type.__call__" ⟨.ref C :: vs, kw⟩)) (.call (.ref f) ⟨.ref (s.heap.objs.size + 1) :: vs, kw⟩) (PySem.W.InitBack (s.heap.objs.size + 1) R)
      { s with heap := (s.heap.push PySem.W.emptyDict).push (PySem.W.instObj C s.heap.objs.size) }) :
    codeAny (model prog w) A (.call (.ref C) ⟨vs, kw⟩) R s := by
  obtain ⟨hh, g, d, t, os⟩ := s
  exact PySem.W.make_core (PySem.W.makes_of X hm) (PySem.W.looks_findIn X hi) (fun self => PySem.W.bind_fn X self hf) (.inl rfl) h
end
def putF (f : Str) (v : V) : List (Str × V) → List (Str × V)
  | [] => [(f, v)]
  | (g, x) :: r => if g = f then (g, v) :: r else (g, x) :: putF f v r
theorem lookup_putF (f g : Str) (v : V) : ∀ fs : List (Str × V), (putF f v fs).lookup g = if g = f then some v else fs.lookup g
  | [] => by
    show List.lookup g [(f, v)] = _
    by_cases h : g = f
    · have hb : (g == f) = true := beq_iff_eq.mpr h
      simp only [List.lookup, hb, if_pos h]
    · have hb : (g == f) = false := beq_eq_false_iff_ne.mpr h
      simp only [List.lookup, hb, if_neg h]
  | (k, x) :: r => by
    have ih := lookup_putF f g v r
    rw [show putF f v ((k, x) :: r) = (if k = f then (k, v) :: r else (k, x) :: putF f v r) from rfl]
    by_cases hk : k = f
    · rw [if_pos hk]
      by_cases h : g = k
      · have hb : (g == k) = true := beq_iff_eq.mpr h
        simp only [List.lookup, hb, if_pos (h.trans hk)]
      · have hb : (g == k) = false := beq_eq_false_iff_ne.mpr h
        simp only [List.lookup, hb, if_neg (fun e : g = f => h (e.trans hk.symm))]
    · rw [if_neg hk]
      by_cases h : g = k
      · have hb : (g == k) = true := beq_iff_eq.mpr h
        simp only [List.lookup, hb, if_neg (fun e : g = f => hk (h.symm.trans e))]
      · have hb : (g == k) = false := beq_eq_false_iff_ne.mpr h
        simp only [List.lookup, hb]
        exact ih
theorem keys_putF (f : Str) (v : V) : ∀ fs : List (Str × V), f ∈ (putF f v fs).map (·.1) ∧ ∀ g, g ∈ fs.map (·.1) → g ∈ (putF f v fs).map (·.1)
  | [] => ⟨by simp [putF], fun g h => by simp at h⟩
  | (k, x) :: r => by
    obtain ⟨i1, i2⟩ := keys_putF f v r
    rw [show putF f v ((k, x) :: r) = (if k = f then (k, v) :: r else (k, x) :: putF f v r) from rfl]
    by_cases hk : k = f
    · rw [if_pos hk]
      subst hk
      exact ⟨by simp, fun g h => by simpa using h⟩
    · rw [if_neg hk]
      refine ⟨?_, fun g h => ?_⟩
      · rw [List.map_cons]
        exact List.mem_cons_of_mem _ i1
      · rw [List.map_cons] at h ⊢
        rcases List.mem_cons.mp h with e | e
        · exact List.mem_cons.mpr (.inl e)
        · exact List.mem_cons_of_mem _ (i2 g e)
theorem length_putF (f : Str) (v : V) : ∀ fs : List (Str × V), (putF f v fs).length ≤ fs.length + 1
  | [] => by simp [putF]
  | (k, x) :: r => by
    have ih := length_putF f v r
    rw [show putF f v ((k, x) :: r) = (if k = f then (k, v) :: r else (k, x) :: putF f v r) from rfl]
    by_cases hk : k = f
    · rw [if_pos hk, List.length_cons, List.length_cons]; omega
    · rw [if_neg hk, List.length_cons, List.length_cons]; omega
theorem RelO.some_of {v : V} {o : Option Value} (r : RelO (some v) o) : ∃ u, o = some u ∧ RelV v u := by
  cases o with
  | none => exact (show False from r).elim
  | some u => exact ⟨u, rfl, r⟩
theorem RelO.none_of {o : Option Value} (r : RelO none o) : o = none := by
  cases o with
  | none => rfl
  | some u => exact (show False from r).elim
theorem handed_of {v : V} {u : Value} (r : RelV v u) : PySem.W.handedIn u = true := by
  cases v with
  | non => cases (show u = Value.none from r); rfl
  | bl b => cases (show u = Value.bool b from r); rfl
  | int i => obtain ⟨t, e⟩ := (show ∃ t, u = Value.int i t from r); cases e; rfl
  | str x => obtain ⟨t, e⟩ := (show ∃ t, u = Value.str x t from r); cases e; rfl
  | byt b => obtain ⟨t, e⟩ := (show ∃ t, u = Value.bytes b t from r); cases e; rfl
  | flt b => obtain ⟨t, e⟩ := (show ∃ t, u = Value.float b t from r); cases e; rfl
  | ref a => cases (show u = Value.ref a from r); rfl
  | ty n => cases (show u = Value.type n from r); rfl
section
variable {P : Program} {w : World} {H H' : Hp} {h h' : Heap} {a C dx : Addr} {fs fs' : List (Str × V)}
theorem ins_get (hok : HOk P w H h) (e : H a = some (.ins C dx fs)) : ∃ mA, ObjM h a dx C mA ∧ (∀ f, RelO (fs.lookup f) (mA f)) ∧ PySem.Within mA (fs.map (·.1)) ∧ fs.length ≤ 1000 ∧ H dx = some (.own a) := by
  obtain ⟨d, z, ne, ob, mA, n, r, q⟩ := (show ObjOk P w H h a (.ins C dx fs) from hok a _ e)
  exact ⟨mA, ⟨ob, n, ne⟩, r, q, z, d⟩
end
structure Cls (K : PySem.W.Frag) (C : Addr) : Prop where
  pg : PySem.W.plainGet K C Str.empty = true
  hd : PySem.W.hasDictIn K C = true
  po : PySem.W.plainOver K C = true
  sa : PySem.W.findIn K (.ref C) "__setattr__" = some (some (.builtin "object.__setattr__"))
theorem Cls.get {K : PySem.W.Frag} {C : Addr} (c : Cls K C) (f : Str) : PySem.W.plainGet K C f = true := c.pg
def NoAttr (K : PySem.W.Frag) (C : Addr) (f : Str) : Prop := PySem.W.findIn K (.ref C) f = some none
theorem NoAttr.taker {K : PySem.W.Frag} {C : Addr} {f : Str} (n : NoAttr K C f) : PySem.W.takerIn K C f = some none := by
  unfold PySem.W.takerIn
  rw [show PySem.W.findIn K (.ref C) f = some none from n]
  rfl
structure Con (K : PySem.W.Frag) (C : Addr) (f : Str) (v : V) (u : Value) : Prop where
  at_ : PySem.W.findIn K (.ref C) f = some (some u)
  rel : RelV v u
  get : PySem.W.specialIn K u "__get__" = some none
  cp : PySem.W.copiedNames.contains f = false
structure Meth (K : PySem.W.Frag) (C : Addr) (m : Str) (f : Addr) : Prop where
  at_ : PySem.W.findIn K (.ref C) m = some (some (.ref f))
  fn : PySem.W.isFn K (.ref f) = true
  kp : PySem.W.keepIn K (.ref f) = true
section
variable {X : Cx} {pins : List (Addr × Obj)} {σ : St} {H : Hp} {s : Shared} {a C dx : Addr} {fs : List (Str × V)} {f : Str} {v : V} {A : Around} {E : Value → Shared → Prop}
theorem getattr_ok {b : Bool} {Q : Value → Shared → Prop} (I : Inv X pins σ H s) (e : H a = some (.ins C dx fs)) (c : Cls X.K C) (n : NoAttr X.K C f) (l : fs.lookup f = some v)
    (h : ∀ u s', Inv X pins σ H s' → RelV v u → Q u s') : wpAny (model X.prog X.w) A (getAttr (.ref a) f b) Q E s := by
  obtain ⟨mA, O, r, _, _, _⟩ := ins_get I.hok e
  obtain ⟨u, hu, ru⟩ := RelO.some_of (v := v) (o := mA f) (by rw [← l]; exact r f)
  exact get_map I.kIn O (c.get f) c.hd n hu (handed_of ru) (h u _ (I.tok _) ru)
theorem getmeth_ok {m : Str} {g : Addr} {pl : Sem Bool} {Q : Value × List Value → Shared → Prop} (I : Inv X pins σ H s) (e : H a = some (.ins C dx fs)) (c : Cls X.K C) (k : Meth X.K C m g) (l : fs.lookup m = none)
    (h : Q (.ref g, [.ref a]) s) : wpAny (model X.prog X.w) A (getMethod (.ref a) m pl) Q E s := by
  obtain ⟨mA, O, r, _, _, _⟩ := ins_get I.hok e
  have hn : mA m = none := RelO.none_of (by rw [← l]; exact r m)
  exact get_meth I.kIn O (c.get m) k.at_ k.fn hn h
theorem setattr_ok {y : V} {u : Value} {Q : Unit → Shared → Prop} (I : Inv X pins σ H s) (e : H a = some (.ins C dx fs)) (c : Cls X.K C) (n : NoAttr X.K C f) (hl : fs.length < 1000) (ry : RelV y u)
    (h : ∀ s', Inv X pins σ (upd H a (.ins C dx (putF f y fs))) s' → Q () s') : wpAny (model X.prog X.w) A (setAttr (.ref a) f u) Q E s := by
  obtain ⟨mA, O, r, wi, _, ho⟩ := ins_get I.hok e
  have hz : (fs.map (·.1)).length ≤ sizeLine := by rw [List.length_map, sizeLine_eq]; omega
  refine set_map I.kIn O c.sa c.po n.taker c.hd wi hz fun h' O' sb => h _ ?_
  have hd : ∃ o, h'.get? dx = some o := let ⟨o, _, _, e', _⟩ := O'.ns; ⟨o, e'⟩
  refine I.write (x := a) (e := dx) (by rw [e]; exact True.intro) (.inr ho) (fun b q hb z => (sb.2 b hb).trans z) hd ?_
  refine ⟨by rw [upd_ne O.ne]; exact ho, ?_, O.ne, O'.obj, _, O'.ns, fun g => ?_, fun g hg => ?_⟩
  · have := length_putF f y fs; omega
  · show RelO ((putF f y fs).lookup g) (if g = f then some u else mA g)
    rw [lookup_putF]
    by_cases q : g = f
    · rw [if_pos q, if_pos q]; exact ry
    · rw [if_neg q, if_neg q]; exact r g
  · by_cases q : g = f
    · rw [q]; exact (keys_putF f y fs).1
    · refine (keys_putF f y fs).2 g (wi g fun z => hg ?_)
      show (if g = f then some u else mA g) = none
      rw [if_neg q]; exact z
theorem Inv.made (I : Inv X pins σ H s) : Inv X pins σ (upd (upd H s.heap.objs.size (.own (s.heap.objs.size + 1))) (s.heap.objs.size + 1) (.ins C s.heap.objs.size []))
    { s with heap := (s.heap.push PySem.W.emptyDict).push (PySem.W.instObj C s.heap.objs.size) } := by
  have e1 : (s.heap.push PySem.W.emptyDict).get? s.heap.objs.size = some PySem.W.emptyDict := Heap.get?_push_size s.heap rfl
  have e2 : ((s.heap.push PySem.W.emptyDict).push (PySem.W.instObj C s.heap.objs.size)).get? (s.heap.objs.size + 1) = some (PySem.W.instObj C s.heap.objs.size) := by
    have := Heap.get?_push_size (s.heap.push PySem.W.emptyDict) (o := PySem.W.instObj C s.heap.objs.size) rfl
    rwa [Heap.size_push] at this
  have e3 : (s.heap.push PySem.W.emptyDict).Ns s.heap.objs.size (fun _ => none) := ⟨PySem.W.emptyDict, #[], _, e1, rfl, (fun e he => absurd he (by simp)), fun _ => rfl⟩
  have I1 := I.laid (a := s.heap.objs.size) (o := .own (s.heap.objs.size + 1)) (h' := s.heap.push PySem.W.emptyDict) (t' := s.toks) (fun b u q => Heap.get?_push_of_some _ q) (Nat.le_refl _) ⟨_, e1⟩
  refine I1.laid (a := s.heap.objs.size + 1) (o := .ins C s.heap.objs.size []) (t' := s.toks) (fun b u q => Heap.get?_push_of_some _ q) (Nat.le_of_eq (Heap.size_push _ _)) ?_
  have ne : s.heap.objs.size ≠ s.heap.objs.size + 1 := Nat.ne_of_lt (Nat.lt_succ_self _)
  refine ⟨by rw [upd_ne ne, upd_same], Nat.zero_le _, ne, e2, fun _ => none, (Heap.Ns1.of_empty e3).at fun o q => Heap.get?_push_of_some _ q, fun _ => True.intro, fun y hy => absurd rfl hy⟩
theorem attr_of {prog : Program} {w : World} {env : Env} {e : Expr} {f : Str} {pos : Pos} {s : Shared} {Q : Value → Shared → Prop} (hb : attributeBase e f env (eval e env) = eval e env)
    (h : wpAny (model prog w) A (eval e env) (fun o s₁ => wpAny (model prog w) A (getAttr o f true) Q E s₁) E s) : wpAny (model prog w) A (eval (.Attribute e f pos) env) Q E s :=
  Attribute_any_ h (by rw [arm_eval_Attribute, hb])
end
def tFld (K : PySem.W.Frag) (ta : TE) (f : Str) : TE := fun σ H Q => ta σ H fun x H1 => ∃ a C dx fs v, x = .ref a ∧ H1 a = some (.ins C dx fs) ∧ Cls K C ∧ NoAttr K C f ∧ fs.lookup f = some v ∧ Q v H1
def sFld (K : PySem.W.Frag) (ta tv : TE) (f : Str) : TS := fun D σ H => tv σ H fun y H1 => ta σ H1 fun x H2 => ∃ a C dx fs, x = .ref a ∧ H2 a = some (.ins C dx fs) ∧ Cls K C ∧ NoAttr K C f ∧ fs.length < 1000 ∧
  D.nx σ (upd H2 a (.ins C dx (putF f y fs)))
section
variable {X : Cx} {o e value : Expr} {f : Str} {pos pos' tpos : Pos} {ta tv : TE}
theorem pe_fld (he : PE X e ta) (hb : attributeBase e f X.env (eval e X.env) = eval e X.env) : PE X (.Attribute e f pos) (tFld X.K ta f) := by
  intro pins s σ H Q I h
  refine attr_of hb (thn (he pins s σ H _ I h) fun u s1 ⟨x, H1, I1, rx, a, C, dx, fs, v, ex, ea, c, n, l, q⟩ => ?_)
  subst ex
  obtain rfl : u = Value.ref a := rx
  exact getattr_ok I1 ea c n l fun u' s2 I2 ru => ⟨v, H1, I2, ru, q⟩
theorem ps_fld (ha : PE X o ta) (hv : PE X value tv) (hs : swapsWith value (some (.Attribute o f pos')) pos.line X.env = pure false) : PS X (.Assign [.Attribute o f pos'] value pos) (sFld X.K ta tv f) := by
  intro pins s σ H D I h
  refine plainObj_wpAny_Assign_Attribute (thn (hv pins s σ H _ I h) fun u s1 ⟨y, H1, I1, ry, q⟩ => thn (ha pins s1 σ H1 _ I1 q) fun ov s2 ⟨x, H2, I2, rx, a, C, dx, fs, ex, ea, c, n, l, q2⟩ => ?_) hs
  subst ex
  obtain rfl : ov = Value.ref a := rx
  exact setattr_ok I2 ea c n l ry fun s3 I3 => ⟨σ, _, I3, q2⟩
end
section
variable {X : Cx} {pins : List (Addr × Obj)} {σ : St} {H : Hp} {s : Shared} {A : Around} {E : Value → Shared → Prop} {Q : Value → Shared → Prop} {c : Value} {b : Bool}
inductive TyOf (K : PySem.W.Frag) (H : Hp) : V → Value → Prop where
  | non : TyOf K H .non (.type "NoneType")
  | bl (x : Bool) : TyOf K H (.bl x) (.type "bool")
  | int (i : Int) : TyOf K H (.int i) (.type "int")
  | str (x : Str) : TyOf K H (.str x) (.type "str")
  | flt (x : UInt64) : TyOf K H (.flt x) (.type "float")
  | lst {a : Addr} {xs : List V} (e : H a = some (.lst xs)) : TyOf K H (.ref a) (.type "list")
  | frz {a : Addr} {o : Obj} {xs : List V} (e : H a = some (.frz o (.lst xs))) : TyOf K H (.ref a) (.type "list")
  | tup {a : Addr} {xs : List V} (e : H a = some (.tup xs)) : TyOf K H (.ref a) (.type "tuple")
  | dK {a : Addr} {kvs : List (Key × V)} (e : H a = some (.dK kvs)) : TyOf K H (.ref a) (.type "dict")
  | dT {a : Addr} {kvs : List (List Key × V)} (e : H a = some (.dT kvs)) : TyOf K H (.ref a) (.type "dict")
  | ins {a C dx : Addr} {fs : List (Str × V)} (e : H a = some (.ins C dx fs)) (cl : Cls K C) (ha : PySem.W.findIn K (.ref C) "__class__" = some (some (.builtin "object.__class__")))
      (hn : PySem.W.specialIn K (.builtin "object.__class__") "__get__" = some (some (.builtin "getset_descriptor.__get__"))) (htk : PySem.W.takesIn K (.builtin "object.__class__") = some true)
      (hm : PySem.W.mroIn K C (.type "object") = some true) : TyOf K H (.ref a) (.ref C)
theorem isinst_ok {x : V} {u t : Value} (I : Inv X pins σ H s) (rx : RelV x u) (ty : TyOf X.K H x t) (e : PySem.W.kitOne X.K t c = some b) (h : ∀ tk, Q (.bool b) { s with toks := tk }) :
    wpAny (model X.prog X.w) A (call (.builtin "isinstance") [u, c]) Q E s := by
  cases ty with
  | non => cases (show u = Value.none from rx); exact PySem.W.kia_one PySem.W.kitx_none I.kIn True.intro e (fun z => nomatch z) h
  | bl y => cases (show u = Value.bool y from rx); exact PySem.W.kia_one PySem.W.kitx_bool I.kIn True.intro e (fun z => nomatch z) h
  | int i => obtain ⟨t, q⟩ := (show ∃ t, u = Value.int i t from rx); cases q; exact PySem.W.kia_one PySem.W.kitx_int I.kIn True.intro e (fun z => nomatch z) h
  | str y => obtain ⟨t, q⟩ := (show ∃ t, u = Value.str y t from rx); cases q; exact PySem.W.kia_one PySem.W.kitx_str I.kIn True.intro e (fun z => nomatch z) h
  | flt y => obtain ⟨t, q⟩ := (show ∃ t, u = Value.float y t from rx); cases q; exact PySem.W.kia_one PySem.W.kitx_float I.kIn True.intro e (fun z => nomatch z) h
  | @lst a xs ea =>
    cases (show u = Value.ref a from rx)
    obtain ⟨_, _, n, _, h1⟩ := (show ObjOk X.prog X.w H s.heap a (.lst xs) from I.hok a _ ea)
    exact PySem.W.kia_one PySem.W.kitx_list I.kIn ⟨_, h1, rfl⟩ e (fun z => nomatch z) h
  | @frz a ob xs ea =>
    cases (show u = Value.ref a from rx)
    obtain ⟨_, _, _, n, _, h1⟩ := (show ObjOk X.prog X.w H s.heap a (.frz ob (.lst xs)) from I.hok a _ ea)
    exact PySem.W.kia_one PySem.W.kitx_list I.kIn ⟨_, h1, rfl⟩ e (fun z => nomatch z) h
  | @tup a xs ea =>
    cases (show u = Value.ref a from rx)
    obtain ⟨_, _, _, p⟩ := (show ObjOk X.prog X.w H s.heap a (.tup xs) from I.hok a _ ea)
    obtain ⟨o, h1, h2, _⟩ := p.1
    exact PySem.W.kia_one PySem.W.kitx_tuple I.kIn ⟨o, h1, h2⟩ e (fun z => nomatch z) h
  | @dK a kvs ea =>
    cases (show u = Value.ref a from rx)
    obtain ⟨_, _, vs, _, p⟩ := (show ObjOk X.prog X.w H s.heap a (.dK kvs) from I.hok a _ ea)
    obtain ⟨o, es, ep, h1, h2, _⟩ := p
    exact PySem.W.kia_one PySem.W.kitx_dict I.kIn ⟨o, h1, h2.1⟩ e (fun z => nomatch z) h
  | @dT a kvs ea =>
    cases (show u = Value.ref a from rx)
    obtain ⟨_, _, xs, _, o, es, ep, h1, h2, _⟩ := (show ObjOk X.prog X.w H s.heap a (.dT kvs) from I.hok a _ ea)
    exact PySem.W.kia_one PySem.W.kitx_dict I.kIn ⟨o, h1, h2.1⟩ e (fun z => nomatch z) h
  | @ins a C dx fs ea cl ha hn htk hm =>
    cases (show u = Value.ref a from rx)
    obtain ⟨mA, O, _⟩ := ins_get I.hok ea
    obtain ⟨od, J, _⟩ := O.look
    exact PySem.W.kia_one (PySem.W.kitx_own (cl.get _) cl.hd ha hn htk hm) I.kIn J e (fun z => nomatch z) h
end
structure Room (k : Nat) (A : Around) : Prop where
  hd : A.handled = none
  dp : A.depth + 3 * k + 5 < recursionLimit
  un : A.units + 16 * k + 200 < cLine
  gd : A.guards = some []
theorem Room.mono {j k : Nat} {A : Around} (r : Room k A) (h : j ≤ k) : Room j A := ⟨r.hd, by have := r.dp; omega, by have := r.un; omega, r.gd⟩
theorem Room.deeper {k : Nat} {A : Around} (r : Room (k + 1) A) (env : Env) : Room k (A.deeper env) :=
  ⟨r.hd, by have := r.dp; show A.depth + 1 + 3 * k + 5 < _; omega, by have := r.un; show A.units + 3 + 16 * k + 200 < _; omega, r.gd⟩
theorem make_depth {A : Around} {C : Addr} {us : List Value} {kw : List (Str × Value)} : (A.under (.builtin "type.__call__" ⟨.ref C :: us, kw⟩)).depth = A.depth + 1 := by
  first | rfl | simp [Around.under, Code.weight, Code.isCreation, Code.isGuard, Code.isCaller, Code.frames, Code.isFrame, guardIds]
theorem make_units {A : Around} {C : Addr} {us : List Value} {kw : List (Str × Value)} : (A.under (.builtin "type.__call__" ⟨.ref C :: us, kw⟩)).units = A.units + 1 := by
  first | rfl | simp [Around.under, Code.cUnits, Code.frames, Code.isFrame]
theorem make_guards {A : Around} {C : Addr} {us : List Value} {kw : List (Str × Value)} : (A.under (.builtin "type.__call__" ⟨.ref C :: us, kw⟩)).guards = A.guards := by
  have hg : (Code.builtin "type.__call__" ⟨.ref C :: us, kw⟩).guards = [] := by first | rfl | simp [Code.guards, Code.isGuard, guardIds]
  show pushGuards (Code.builtin "type.__call__" ⟨.ref C :: us, kw⟩).guards A.guards = A.guards
  rw [hg]
  cases A.guards <;> rfl
theorem Room.make {k : Nat} {A : Around} (r : Room (k + 1) A) (C : Addr) (us : List Value) (kw : List (Str × Value)) : Room k (A.under (.builtin "type.__call__" ⟨.ref C :: us, kw⟩)) :=
  ⟨r.hd, by have := r.dp; rw [make_depth]; omega, by have := r.un; rw [make_units]; omega, by rw [make_guards]; exact r.gd⟩
theorem Room.depth {k : Nat} {A : Around} (r : Room k A) : A.depth < recursionLimit := by have := r.dp; omega
theorem Room.units {k : Nat} {A : Around} (r : Room k A) : A.units + 64 < cLine := by have := r.un; omega
def tNil : TA := fun _ H Q => Q [] H
def tCons (ta : TE) (tr : TA) : TA := fun σ H Q => ta σ H fun x H1 => tr σ H1 fun xs H2 => Q (x :: xs) H2
section
variable {X : Cx} {e : Expr} {es : List Expr} {te : TE} {t : TA} {pos : Pos}
theorem pa_nil : PA X [] tNil := fun _ _ _ _ H Q I h => Calls.spliced_nil ⟨[], H, I, .nil, h⟩
theorem pa_cons (ha : PE X e te) (hr : PA X es t) (hs : starEach (e :: es) X.env = (false, eval e X.env) :: starEach es X.env := by rfl) : PA X (e :: es) (tCons te t) := by
  intro pos pins s σ H Q I h
  rw [hs]
  show wpAny _ _ (spliced ((false, eval e X.env) :: backTo pos (starEach es X.env))) _ _ s
  refine Calls.spliced_cons (thn (ha pins s σ H _ I h) fun u s1 ⟨x, H1, I1, r1, q1⟩ => ?_)
  exact thn (hr pos pins s1 σ H1 _ I1 q1) fun us s2 ⟨xs, H2, I2, r2, q2⟩ => ⟨x :: xs, H2, I2, .cons r1 r2, q2⟩
def tTup (t : TA) : TE := fun σ H Q => t σ H fun xs H1 => xs.length ≤ sizeLine ∧ ∀ p, H1 p = none → Q (.ref p) (upd H1 p (.tup xs))
def tLst (t : TA) : TE := fun σ H Q => t σ H fun xs H1 => xs.length ≤ sizeLine ∧ ∀ p, H1 p = none → Q (.ref p) (upd H1 p (.lst xs))
theorem pe_tup {x1} (h : PA X es t) : PE X (.Tuple es x1 pos) (tTup t) := by
  intro pins s σ H Q I hq
  refine wpAny_Tuple_spliced (thn (h pos pins s σ H _ I hq) fun us s1 ⟨xs, H1, I1, r, z, q⟩ => ⟨by rw [← r.length]; exact z, ?_⟩)
  have hf : H1 s1.heap.objs.size = none := I1.hok.fresh (Nat.le_refl _)
  refine ⟨.ref s1.heap.objs.size, upd H1 s1.heap.objs.size (.tup xs), I1.laid (t' := s1.toks) (fun b u e => Heap.get?_push_of_some _ e) (Nat.le_refl _) ?_, rfl, q _ hf⟩
  exact ⟨z, us, r, TupN.new _ _⟩
theorem pe_lst (h : PA X es t) : PE X (.List es pos) (tLst t) := by
  intro pins s σ H Q I hq
  refine wpAny_List_spliced (thn (h pos pins s σ H _ I hq) fun us s1 ⟨xs, H1, I1, r, z, q⟩ => ⟨by rw [← r.length]; exact z, ?_⟩)
  have hf : H1 s1.heap.objs.size = none := I1.hok.fresh (Nat.le_refl _)
  refine ⟨.ref s1.heap.objs.size, upd H1 s1.heap.objs.size (.lst xs), I1.laid (t' := s1.toks) (fun b u e => Heap.get?_push_of_some _ e) (Nat.le_refl _) ?_, rfl, q _ hf⟩
  exact ⟨z, us, 0, r, Heap.get?_push_size _ rfl⟩
end
abbrev Sp := List V → Hp → VK → XK → Prop
abbrev CXT := List Env → Hp → Shared → XK → Value → Shared → Prop
structure Env0 (P : Program) (w : World) (K : PySem.W.Frag) (mg : Str → Option Value) (base : Heap) (A : Around) (outer : List Env) (s : Shared) (H : Hp) : Prop where
  frames : A.frames = some outer
  mod : Mod K mg base
  bs : ∀ b o, base.get? b = some o → s.heap.get? b = some o ∧ H b = none
  bsz : base.objs.size ≤ s.heap.objs.size
  funs : s.heap.FunFrames base outer
  frf : ∀ b ∈ frs outer, H b = none
  hok : HOk P w H s.heap
  bare : AllBare s.gens
def CE (outer : List Env) (P : Program) (w : World) (H : Hp) (s : Shared) (Q : VK) (u : Value) (s' : Shared) : Prop :=
  ∃ v H', s'.os = s.os ∧ AllBare s'.gens ∧ Un (frs outer) [] H H' s.heap s'.heap ∧ HOk P w H' s'.heap ∧ RelV v u ∧ Q v H'
def CR (CX : CXT) (outer : List Env) (P : Program) (w : World) (H : Hp) (s : Shared) (Q : VK) (E : XK) (r : Result) (s' : Shared) : Prop :=
  match r with
  | .ok (.ret u) => CE outer P w H s Q u s'
  | .ok _ => False
  | .error e => CX outer H s E e s'
structure FnOk (P : Program) (w : World) (K : PySem.W.Frag) (mg : Str → Option Value) (base : Heap) (CX : CXT) (k : Nat) (f : Addr) (fd : FuncData) (ps : List Str) (sp : Sp) : Prop where
  len : ∀ vs H Q E, sp vs H Q E → vs.length = ps.length
  run : ∀ (A : Around) (outer : List Env) (s : Shared) (H : Hp) (args : Args) (us : List Value) (vs : List V) (Q : VK) (E : XK), Room k A → Env0 P w K mg base A outer s H → BindsTo s fd args (ps.zip us) → Vals vs us → sp vs H Q E →
    codeAny (model P w) A (.call (.ref f) args) (CR CX outer P w H s Q E) s
theorem Env0.make {P : Program} {w : World} {K : PySem.W.Frag} {mg : Str → Option Value} {base : Heap} {A : Around} {outer : List Env} {s : Shared} {H : Hp} (e : Env0 P w K mg base A outer s H) (C : Addr) (us : List Value) (kw : List (Str × Value)) :
    Env0 P w K mg base (A.under (.builtin "type.__call__" ⟨.ref C :: us, kw⟩)) outer s H := ⟨by first | exact e.frames | (simpa [Around.under, Code.envs, Code.isFrame, pushEnvs] using e.frames), e.mod, e.bs, e.bsz, e.funs, e.frf, e.hok, e.bare⟩
section
variable {X : Cx} {pins : List (Addr × Obj)} {σ : St} {H : Hp} {s s' : Shared}
theorem Inv.env0 (I : Inv X pins σ H s) : Env0 X.prog X.w X.K X.mg X.base X.A X.stack s H :=
  ⟨I.ok.frames, I.ok.mod, I.bs, Nat.le_trans I.ok.bsz I.sz, I.stack, I.stkFree, I.hok, I.bare⟩
theorem Inv.after {Q : VK} {u : Value} (I : Inv X pins σ H s) (h : CE X.stack X.prog X.w H s Q u s') : EP X pins σ Q u s' := by
  obtain ⟨v, H', os, bare, un, hok, r, q⟩ := h
  obtain ⟨hh, g, d, t, os'⟩ := s'
  obtain rfl : os' = s.os := os
  exact ⟨v, H', I.call (h' := hh) (g' := g) (d' := d) (t' := t) (ch := []) un hok bare (fun b z => absurd z (by simp)), r, q⟩
end
def tCall (sp : Sp) (dvs : List V) (E : XK) (t : TA) : TE := fun σ H Q => t σ H fun vs H1 => sp (vs ++ dvs) H1 Q E
def tMeth (C : Addr) (m : Str) (sp : Sp) (dvs : List V) (E : XK) (ta : TE) (t : TA) : TE := fun σ H Q => ta σ H fun x H1 => ∃ a dx fs, x = .ref a ∧ H1 a = some (.ins C dx fs) ∧ fs.lookup m = none ∧
  t σ H1 fun vs H2 => sp (x :: (vs ++ dvs)) H2 Q E
def tMake (C : Addr) (sp : Sp) (dvs : List V) (E : XK) (t : TA) : TE := fun σ H Q => t σ H fun vs H1 => ∀ x dx, H1 x = none → H1 dx = none → dx ≠ x →
  sp (.ref x :: (vs ++ dvs)) (upd (upd H1 dx (.own x)) x (.ins C dx [])) (fun v H2 => v = .non ∧ Q (.ref x) H2) E
def Binds (K : PySem.W.Frag) (fd : FuncData) (ps : List Str) (ds : List Value) : Prop :=
  ∀ (s : Shared) (us : List Value), K.In s.heap → (us ++ ds).length = ps.length → BindsTo s fd ⟨us, []⟩ (ps.zip (us ++ ds))
theorem Binds.all {K : PySem.W.Frag} {fd : FuncData} {ps : List Str} (h : ∀ us : List Value, us.length = ps.length → bindArgs fd ⟨us, []⟩ = pure (ps.zip us)) : Binds K fd ps [] := fun s us _ hl => by
  rw [List.append_nil] at hl ⊢
  exact .of_eq (h us hl)
def Passes (CX : CXT) (X : Cx) (E : XK) : Prop := ∀ (pins : List (Addr × Obj)) (σ : St) (H : Hp) (s : Shared) (e : Value) (s' : Shared), Inv X pins σ H s → CX X.stack H s E e s' → X.xe e s'
section
variable {X : Cx} {CX : CXT} {k : Nat} {f C : Addr} {fd : FuncData} {ps : List Str} {sp : Sp} {dvs : List V} {ds : List Value} {E : XK} {x m : Str} {p pos apos : Pos} {e o : Expr} {es : List Expr} {ta : TE} {t : TA}
theorem run_fn {pins : List (Addr × Obj)} {σ : St} {H : Hp} {s : Shared} {Q : VK} {us : List Value} {vs : List V} (F : FnOk X.prog X.w X.K X.mg X.base CX k f fd ps sp) (hr : Room k X.A) (hb : Binds X.K fd ps ds) (hd : Vals dvs ds) (hx : Passes CX X E)
    (I : Inv X pins σ H s) (r : Vals vs us) (h : sp (vs ++ dvs) H Q E) : wpAny (model X.prog X.w) X.A (call (.ref f) us) (EP X pins σ Q) X.xe s := by
  have r2 : Vals (vs ++ dvs) (us ++ ds) := r.append hd
  have hl : (us ++ ds).length = ps.length := by rw [← r2.length]; exact F.len _ _ _ _ h
  refine wpAny_call (codeAny_mono (F.run X.A X.stack s H ⟨us, []⟩ (us ++ ds) (vs ++ dvs) Q E hr I.env0 (hb s us I.kIn hl) r2 h) fun r s' hq => ?_)
  cases r with
  | error e => exact hx pins σ H s e s' I hq
  | ok fl =>
    cases fl with
    | ret u => exact I.after hq
    | next => exact False.elim hq
    | brk => exact False.elim hq
    | cont => exact False.elim hq
theorem pe_call (F : FnOk X.prog X.w X.K X.mg X.base CX k f fd ps sp) (hr : Room k X.A) (hg : Gl X x) (hm : X.mg x = some (.ref f)) (hk : PySem.W.keepIn X.K (.ref f) = true) (hb : Binds X.K fd ps ds) (hd : Vals dvs ds) (hx : Passes CX X E)
    (ha : PA X (e :: es) t) (hdb : (x == ("__debug__" : Str)) = false := by decide) (he : starEach (e :: es) X.env = (false, eval e X.env) :: starEach es X.env := by rfl) (hpl : (backTo pos (starEach es X.env)).any (·.1) = false := by rfl) :
    PE X (.Call (.Name x p) (e :: es) [] pos) (tCall sp dvs E t) := by
  intro pins s σ H Q I h
  refine wpAny_Call_Name_kw (ld_glob I hg hm ?_ hdb)
  refine PySem.W.callWith_K (h₀ := X.base) I.ok.mod.kin hk (thn (ha pos pins s σ H _ I h) fun us s1 ⟨vs, H1, I1, r, q⟩ => ⟨I1.kIn, ?_⟩) he hpl
  exact run_fn F hr hb hd hx I1 r q
theorem pe_meth {pl : Sem Bool} (he : PE X o ta) (c : Cls X.K C) (hm : Meth X.K C m f) (F : FnOk X.prog X.w X.K X.mg X.base CX k f fd ps sp) (hr : Room k X.A) (hb : Binds X.K fd ps ds) (hd : Vals dvs ds) (hx : Passes CX X E) (ha : PA X (e :: es) t)
    (hst : starEach (e :: es) X.env = (false, eval e X.env) :: starEach es X.env := by rfl) (hpl : (backTo pos (starEach es X.env)).any (·.1) = false := by rfl)
    (ht : eval (.Call (.Attribute o m apos) (e :: es) [] pos) X.env = (do
      let ov ← eval o X.env
      standAt apos.atName
      let (f, first) ← holding [ov] (getMethod ov m pl)
      callWith pos f first (backTo pos (starEach (e :: es) X.env)) (backToKw pos (keywordEach [] X.env))) := by rfl) :
    PE X (.Call (.Attribute o m apos) (e :: es) [] pos) (tMeth C m sp dvs E ta t) := by
  intro pins s σ H Q I h
  refine PySem.W.methodCall_KW (pl := pl) (thn (he pins s σ H _ I h) fun u s1 ⟨x, H1, I1, rx, a, dx, fs, ex, ea, l, q⟩ => ?_) ht
  subst ex
  obtain rfl : u = Value.ref a := rx
  refine getmeth_ok I1 ea c hm l ?_
  refine PySem.W.callWith_K (first := [.ref a]) (h₀ := X.base) I.ok.mod.kin hm.kp (thn (ha pos pins s1 σ H1 _ I1 q) fun us s2 ⟨vs, H2, I2, r, q2⟩ => ⟨I2.kIn, ?_⟩) hst hpl
  exact run_fn (us := .ref a :: us) (vs := .ref a :: vs) F hr hb hd hx I2 (.cons rfl r) q2
structure Mk (K : PySem.W.Frag) (C f : Addr) : Prop where
  makes : PySem.W.makesIn K C = true
  init : PySem.W.findIn K (.ref C) "__init__" = some (some (.ref f))
  fn : PySem.W.isFn K (.ref f) = true
  kp : PySem.W.keepIn K (.ref C) = true
theorem run_make {pins : List (Addr × Obj)} {σ : St} {H : Hp} {s : Shared} {Q : VK} {us : List Value} {vs : List V} (M : Mk X.K C f) (F : FnOk X.prog X.w X.K X.mg X.base CX k f fd ps sp) (hr : Room (k + 1) X.A) (hb : Binds X.K fd ps ds) (hd : Vals dvs ds)
    (hx : Passes CX X E) (I : Inv X pins σ H s) (r : Vals vs us)
    (h : ∀ x dx, H x = none → H dx = none → dx ≠ x → sp (.ref x :: (vs ++ dvs)) (upd (upd H dx (.own x)) x (.ins C dx [])) (fun v H2 => v = .non ∧ Q (.ref x) H2) E) :
    wpAny (model X.prog X.w) X.A (call (.ref C) us) (EP X pins σ Q) X.xe s := by
  have hq := h (s.heap.objs.size + 1) s.heap.objs.size (I.hok.fresh (Nat.le_succ _)) (I.hok.fresh (Nat.le_refl _)) (Nat.ne_of_lt (Nat.lt_succ_self _))
  have I2 := Inv.made (C := C) I
  have r2 : Vals (V.ref (s.heap.objs.size + 1) :: (vs ++ dvs)) (Value.ref (s.heap.objs.size + 1) :: (us ++ ds)) := .cons rfl (r.append hd)
  have hl : (Value.ref (s.heap.objs.size + 1) :: us ++ ds).length = ps.length := by
    have e := r2.length
    rw [F.len _ _ _ _ hq] at e
    exact e.symm
  refine wpAny_call (make_map (f := f) I.kIn M.makes M.init (beq_iff_eq.mp M.fn) (codeAny_mono (F.run _ X.stack _ _ ⟨Value.ref (s.heap.objs.size + 1) :: us, []⟩ (Value.ref (s.heap.objs.size + 1) :: (us ++ ds)) _ _ E (hr.make C us [])
    (I2.env0.make C us []) (hb _ (Value.ref (s.heap.objs.size + 1) :: us) I2.kIn hl) r2 hq) fun r s' hq' => ?_))
  cases r with
  | error e => exact hx pins σ _ _ e s' I2 hq'
  | ok fl =>
    cases fl with
    | ret u =>
      obtain ⟨v, H', I3, rv, ev, q3⟩ := I2.after hq'
      subst ev
      exact ⟨rv, ⟨V.ref (s.heap.objs.size + 1), H', I3, rfl, q3⟩⟩
    | next => exact False.elim hq'
    | brk => exact False.elim hq'
    | cont => exact False.elim hq'
theorem pe_make (M : Mk X.K C f) (F : FnOk X.prog X.w X.K X.mg X.base CX k f fd ps sp) (hr : Room (k + 1) X.A) (hg : Gl X x) (hm : X.mg x = some (.ref C)) (hb : Binds X.K fd ps ds) (hd : Vals dvs ds) (hx : Passes CX X E)
    (ha : PA X (e :: es) t) (hdb : (x == ("__debug__" : Str)) = false := by decide) (he : starEach (e :: es) X.env = (false, eval e X.env) :: starEach es X.env := by rfl) (hpl : (backTo pos (starEach es X.env)).any (·.1) = false := by rfl) :
    PE X (.Call (.Name x p) (e :: es) [] pos) (tMake C sp dvs E t) := by
  intro pins s σ H Q I h
  refine wpAny_Call_Name_kw (ld_glob I hg hm ?_ hdb)
  refine PySem.W.callWith_K (h₀ := X.base) I.ok.mod.kin M.kp (thn (ha pos pins s σ H _ I h) fun us s1 ⟨vs, H1, I1, r, q⟩ => ⟨I1.kIn, ?_⟩) he hpl
  exact run_make M F hr hb hd hx I1 r q
end
section
variable {X : Cx} {CX : CXT} {k : Nat} {f C : Addr} {fd : FuncData} {ps ks : List Str} {sp : Sp} {E : XK} {x m : Str} {p pos apos kpos : Pos} {e o : Expr} {es : List Expr} {kws : List Keyword} {te ta : TE} {t tk : TA} {nm : Option Str}
structure KBinds (K : PySem.W.Frag) (fd : FuncData) (ps ks : List Str) (g : List Value → List Value → List Value) (gV : List V → List V → List V) : Prop where
  to : ∀ (s : Shared) (us ws : List Value), K.In s.heap → (g us ws).length = ps.length → BindsTo s fd ⟨us, ks.zip ws⟩ (ps.zip (g us ws))
  rel : ∀ {vs : List V} {us : List Value} {zs : List V} {ws : List Value}, Vals vs us → Vals zs ws → Vals (gV vs zs) (g us ws)
variable {g : List Value → List Value → List Value} {gV : List V → List V → List V}
end
structure FnScope (N P : List Str) (sc : Scope) : Prop where
  kind : sc.kind = .function
  co : sc.isCoroutine = false
  gen : sc.isGenerator = false
  nd : N.Nodup
  pre : N.take P.length = P
  par : ∀ x ∈ P, sc.names.lookup x = some .local ∨ sc.names.lookup x = some .cell
  nofree : ∀ y ∈ sc.names, y.2 ≠ .free
theorem bindL_out {kindOf : Str → Option NameKind} {x : Str} : ∀ {binds : List (Str × Value)} {m : Str → Option Value}, (∀ v, (x, v) ∉ binds) → bindL kindOf binds m x = m x
  | [], _, _ => rfl
  | (n, v) :: r, m, h => by
    unfold bindL
    rw [bindL_out fun w hw => h w (List.mem_cons_of_mem _ hw)]
    split
    · have : x ≠ n := by rintro rfl; exact h v List.mem_cons_self
      simp [this]
    · rfl
theorem bindC_out {kindOf : Str → Option NameKind} {x : Str} : ∀ {binds : List (Str × Value)} {m : Str → Option Value}, (∀ v, (x, v) ∉ binds) → bindC kindOf binds m x = m x
  | [], _, _ => rfl
  | (n, v) :: r, m, h => by
    unfold bindC
    rw [bindC_out fun w hw => h w (List.mem_cons_of_mem _ hw)]
    split
    · rfl
    · have : x ≠ n := by rintro rfl; exact h v List.mem_cons_self
      simp [this]
theorem bindL_get {kindOf : Str → Option NameKind} {x : Str} {v : Value} : ∀ {P : List Str} {vs : List Value} {i : Nat} {m : Str → Option Value}, P.Nodup → P[i]? = some x → vs[i]? = some v → kindOf x = some .local →
    bindL kindOf (P.zip vs) m x = some v
  | [], _, _, _, _, h, _, _ => by simp at h
  | _ :: _, [], _, _, _, _, h, _ => by simp at h
  | p :: P, w :: vs, 0, m, nd, h1, h2, hk => by
    simp at h1 h2; subst h1; subst h2
    show bindL kindOf ((p, w) :: P.zip vs) m p = _
    unfold bindL
    rw [bindL_out fun v hv => (List.nodup_cons.mp nd).1 (List.of_mem_zip hv).1, if_pos hk]
    simp
  | p :: P, w :: vs, i + 1, m, nd, h1, h2, hk => by
    show bindL kindOf ((p, w) :: P.zip vs) m x = _
    unfold bindL
    exact bindL_get (i := i) (List.nodup_cons.mp nd).2 (by simpa using h1) (by simpa using h2) hk
theorem bindC_get {kindOf : Str → Option NameKind} {x : Str} {v : Value} : ∀ {P : List Str} {vs : List Value} {i : Nat} {m : Str → Option Value}, P.Nodup → P[i]? = some x → vs[i]? = some v → kindOf x ≠ some .local →
    bindC kindOf (P.zip vs) m x = some v
  | [], _, _, _, _, h, _, _ => by simp at h
  | _ :: _, [], _, _, _, _, h, _ => by simp at h
  | p :: P, w :: vs, 0, m, nd, h1, h2, hk => by
    simp at h1 h2; subst h1; subst h2
    show bindC kindOf ((p, w) :: P.zip vs) m p = _
    unfold bindC
    rw [bindC_out fun v hv => (List.nodup_cons.mp nd).1 (List.of_mem_zip hv).1, if_neg hk]
    simp
  | p :: P, w :: vs, i + 1, m, nd, h1, h2, hk => by
    show bindC kindOf ((p, w) :: P.zip vs) m x = _
    unfold bindC
    exact bindC_get (i := i) (List.nodup_cons.mp nd).2 (by simpa using h1) (by simpa using h2) hk
def start (N : List Str) (vs : List V) : St := vs.map some ++ List.replicate (N.length - vs.length) none
def cxOf (CX : CXT) (P : Program) (w : World) (K : PySem.W.Frag) (mg : Str → Option Value) (base : Heap) (N : List Str) (qual : Str) (scope : Scope) (f : Addr) (cd : Value) (A : Around) (outer : List Env) (s : Shared) (H : Hp) (E : XK) : Cx where
  prog := P
  w := w
  K := K
  mg := mg
  base := base
  A := A.deeper (envOfC qual scope s.heap.objs.size f cd)
  N := N
  s₀ := s
  H₀ := H
  env := envOfC qual scope s.heap.objs.size f cd
  outer := outer
  stack := envOfC qual scope s.heap.objs.size f cd :: outer
  ex := []
  calm := true
  fn := fun _ => true
  pn := []
  xe := fun e s' => wpAny (model P w) (A.deeper (envOfC qual scope s.heap.objs.size f cd)) (leaving (envOfC qual scope s.heap.objs.size f cd) e) (fun _ s'' => CX outer H s E e s'') (fun e' s'' => CX outer H s E e' s'') s'
theorem cell_has {sc : Scope} {n : Nat} {x : Str} (h : sc.names.lookup x = some .cell) : ∃ c, (cellsFrom n sc.names []).lookup x = some c := by
  have q := PySem.W.cellsFrom_some sc.names n [] (.inl h)
  exact Option.isSome_iff_exists.mp q
theorem inv_start {CX : CXT} {P : Program} {w : World} {K : PySem.W.Frag} {mg : Str → Option Value} {base : Heap} {N ps : List Str} {qual : Str} {scope : Scope} {f : Addr} {cd : Value} {A : Around} {outer : List Env} {s s1 : Shared} {H : Hp} {E : XK} {us : List Value} {vs : List V}
    (S : FnScope N ps scope) (hd : A.handled = none) (e0 : Env0 P w K mg base A outer s H) (hl : vs.length = ps.length) (r : Vals vs us)
    (x : InCallC s s.heap.objs.size (bindL (envOfC qual scope s.heap.objs.size f cd).kindOf (ps.zip us) fun _ => none) (cellsFrom (s.heap.objs.size + 1) scope.names []) (bindC (envOfC qual scope s.heap.objs.size f cd).kindOf (ps.zip us) fun _ => none) s1) :
    Inv (cxOf CX P w K mg base N qual scope f cd A outer s H E) [] (start N vs) H s1 := by
  have hpl : ps.length ≤ N.length := by have := congrArg List.length S.pre; rw [List.length_take] at this; omega
  obtain ⟨h1, tk, rfl, hk⟩ := x.done
  have noA : ∀ b : Addr, b ∉ (cxOf CX P w K mg base N qual scope f cd A outer s H E).ex := fun b z => absurd (show b ∈ ([] : List Addr) from z) (by simp)
  refine ⟨⟨e0.mod, S.kind, rfl, rfl, Nat.le_refl _, fun y z c h1 h2 => ?_, fun y hy => ?_, fun y c _ h => ?_, fun _ => hd, Around.frames_deeper e0.frames, .inr ⟨rfl, rfl⟩, fun b z => absurd z (noA b), e0.bs, e0.bsz, fun b _ _ => noA b, fun b z => absurd z (noA b), e0.funs, e0.frf⟩,
    rfl, e0.bare, Un.kept hk, ⟨_, x.toInCall.ns, fun i y v h1 h2 h3 => ?_⟩, fun y c h => ⟨_, x.cell y c h⟩, e0.hok.fresh (Nat.le_refl _), fun y c h => ?_, fun p hp => absurd (show p ∈ ([] : List (Addr × Obj)) from hp) (by simp), e0.hok.kept hk, ?_⟩
  · exact name_of_addr x.apart (PySem.mem_of_lookup h1) (PySem.mem_of_lookup h2)
  · have hy : scope.names.lookup y = some .cell ∨ scope.names.lookup y = some .free := hy
    rcases hy with hy | hy
    · exact cell_has hy
    · exact absurd rfl (S.nofree _ (PySem.mem_of_lookup hy))
  · exact Nat.le_of_lt (x.above y c (PySem.mem_of_lookup h))
  · have hi : i < vs.length := by
      unfold start at h2
      by_cases hi : i < vs.length
      · exact hi
      · rw [List.getElem?_append_right (by simpa using hi)] at h2
        rw [List.getElem?_replicate] at h2
        split at h2 <;> cases h2
    have ha : vs[i]? = some v := by
      unfold start at h2
      rw [List.getElem?_append_left (by simpa using hi), List.getElem?_map] at h2
      cases e : vs[i]? with
      | none => rw [e] at h2; cases h2
      | some a => rw [e] at h2; cases h2; rfl
    obtain ⟨u, hu, rv⟩ := r.get ha
    have hp : ps[i]? = some y := by
      rw [← S.pre, List.getElem?_take_of_lt (by omega)]; exact h1
    have ndP : ps.Nodup := by rw [← S.pre]; exact S.nd.sublist (List.take_sublist _ _)
    refine ⟨u, rv, ?_⟩
    rcases S.par y (List.mem_of_getElem? hp) with k | k
    · exact .inl ⟨k, bindL_get ndP hp hu k⟩
    · obtain ⟨c, e⟩ := cell_has (n := s.heap.objs.size + 1) k
      refine .inr ⟨.inl k, c, e, ?_⟩
      have q := x.cell y c e
      rw [bindC_get ndP hp hu (by show scope.names.lookup y ≠ _; rw [k]; decide)] at q
      exact q
  · exact e0.hok.fresh (Nat.le_of_lt (x.above y c (PySem.mem_of_lookup h)))
  · unfold start
    show _ = N.length
    rw [List.length_append, List.length_map, List.length_replicate]
    omega
theorem fn_of {CX : CXT} {P : Program} {w : World} {K : PySem.W.Frag} {mg : Str → Option Value} {base : Heap} {k : Nat} {f : Addr} {name qual : Str} {params : Arguments} {body : List Stmt} {scope : Scope} {dV kV doc pm cdv ct oc : Value} {an od : Option Addr}
    {osl : Array (Option Value)} {N ps : List Str} {sp : Sp} (lk : K.lookup f = some ⟨oc, od, .func (PySem.W.fnOf name qual params body scope dV kV doc pm an cdv ct), osl⟩) (hcd : PySem.W.codeIn K cdv qual = true) (S : FnScope N ps scope)
    (len : ∀ vs H Q E, sp vs H Q E → vs.length = ps.length)
    (hbody : ∀ (A : Around) (outer : List Env) (s : Shared) (H : Hp) (vs : List V) (Q : VK) (E : XK), Room k (A.deeper (envOfC qual scope s.heap.objs.size f cdv)) → sp vs H Q E →
      ∃ t, PSs (cxOf CX P w K mg base N qual scope f cdv A outer s H E) body t ∧ t { nx := fun _ H' => Q .non H', rt := Q } (start N vs) H) :
    FnOk P w K mg base CX (k + 1) f (PySem.W.fnOf name qual params body scope dV kV doc pm an cdv ct) ps sp := by
  refine ⟨len, fun A outer s H args us vs Q E hr e0 hb r hsp => ?_⟩
  have hl := len _ _ _ _ hsp
  have KX : K.In s.heap := e0.mod.kin.keeps fun b o e => (e0.bs b o e).1
  have lim : s.heap.NoLimit := e0.mod.nolimit.keeps fun b o e => (e0.bs b o e).1
  have hkind : ∀ y ∈ ps.zip us, scope.names.lookup y.1 = some .local ∨ (scope.names.lookup y.1 = some .cell ∧ ((cellsFrom (s.heap.objs.size + 1) scope.names []).lookup y.1).isSome = true) := fun ⟨n, v⟩ hy => by
    rcases S.par n (List.of_mem_zip hy).1 with q | q
    · exact .inl q
    · exact .inr ⟨q, PySem.W.cellsFrom_some _ _ _ (.inl q)⟩
  refine codeAny_call_function hr.depth (KX _ _ lk) rfl S.co S.gen rfl (PySem.W.codeRec_of KX hcd) (hb _ _ _ _ ?_)
  refine wpAny_newFunctionEnv_cells S.kind hkind fun env he s1 x => ?_
  subst he
  refine ⟨lim.keeps x.toInCall.keep, codeAny_func ?_⟩
  obtain ⟨t, ht, hq⟩ := hbody A outer s H vs Q E (hr.deeper _) hsp
  have I : Inv (cxOf CX P w K mg base N qual scope f cdv A outer s H E) [] (start N vs) H s1 := inv_start S hr.hd e0 hl r x
  refine wpAny_mono (ht [] s1 (start N vs) H _ I hq) (fun fl s' hs => ?_) fun e s' hs => hs
  have fin : ∀ {σ' : St} {H' : Hp} {v : V} {u : Value}, Inv (cxOf CX P w K mg base N qual scope f cdv A outer s H E) [] σ' H' s' → RelV v u → Q v H' → CE outer P w H s Q u s' :=
    fun {σ' H' v u} J rv q => ⟨v, H', J.os, J.bare, J.base, J.hok, rv, q⟩
  cases fl with
  | ret u =>
    obtain ⟨v, σ', H', J, rv, q⟩ := hs
    exact fin J rv q
  | next =>
    obtain ⟨σ', H', J, q⟩ := hs
    exact fin (v := V.non) (u := Value.none) J rfl q
  | brk =>
    obtain ⟨_, _, _, q⟩ := hs
    exact False.elim q
  | cont =>
    obtain ⟨_, _, _, q⟩ := hs
    exact False.elim q
section
variable {X : Cx} {x : Str} {p pos : Pos} {e : Expr} {es : List Expr} {t : TA} {id T : String} {r : List V → Hp → VK → Prop}
def tCB (r : List V → Hp → VK → Prop) (t : TA) : TE := fun σ H Q => t σ H fun vs H1 => r vs H1 Q
theorem pe_callB (hc : CallR X (.builtin id) r) (hg : Gl X x) (hm : X.mg x = none) (hv : bootBuiltins x = some (.builtin id)) (ha : PA X (e :: es) t) (hn : x ≠ "__name__" := by decide) (hdb : (x == ("__debug__" : Str)) = false := by decide)
    (he : starEach (e :: es) X.env = (false, eval e X.env) :: starEach es X.env := by rfl) (hpl : (backTo pos (starEach es X.env)).any (·.1) = false := by rfl) : PE X (.Call (.Name x p) (e :: es) [] pos) (tCB r t) := by
  intro pins s σ H Q I h
  refine wpAny_Call_Name_kw (ld_blt I hg hm hv ?_ hn hdb)
  exact PyProof.Rows.callWith_builtin1 (thn (ha pos pins s σ H _ I h) fun us s1 ⟨vs, H1, I1, r1, q1⟩ => hc pins s1 σ H1 vs us Q I1 r1 q1) he hpl
theorem pe_callTy (hc : CallR X (.type T) r) (hg : Gl X x) (hm : X.mg x = none) (hv : bootBuiltins x = some (.type T)) (ha : PA X (e :: es) t) (hn : x ≠ "__name__" := by decide) (hdb : (x == ("__debug__" : Str)) = false := by decide)
    (he : starEach (e :: es) X.env = (false, eval e X.env) :: starEach es X.env := by rfl) (hpl : (backTo pos (starEach es X.env)).any (·.1) = false := by rfl) : PE X (.Call (.Name x p) (e :: es) [] pos) (tCB r t) := by
  intro pins s σ H Q I h
  refine wpAny_Call_Name_kw (ld_blt I hg hm hv ?_ hn hdb)
  exact PyProof.Rows.callWith_type1 (thn (ha pos pins s σ H _ I h) fun us s1 ⟨vs, H1, I1, r1, q1⟩ => hc pins s1 σ H1 vs us Q I1 r1 q1) he hpl
end
end L2
namespace HT
open PySem PyProof.Rows
section
open PySem.SeqAt
open PySem.AutoSeq1 (wpAny_loadPart')
open PySem.MeetsSeq PySem.MeetsSeq2 PySem.MeetsSeq3
end
section
variable {prog : Program} {w : World} {A : Around} {E : Value → Shared → Prop} {s : Shared}
theorem cat_tup {t b : Addr} {vs ws : List Value} {Q : Value → Shared → Prop} (ht : IsTup s.heap t vs.toArray) (hb : IsTup s.heap b ws.toArray) (hv : vs ≠ [])
    (h1 : ws = [] → Q (.ref t) s) (h2 : ws ≠ [] → Q (.ref s.heap.objs.size) { s with heap := s.heap.push { cls := .type "tuple", data := .seq (vs ++ ws).toArray } })
    (hsz : vs.length + ws.length ≤ sizeLine) : wpAny (model prog w) A (binaryOp .Add (.ref t) (.ref b)) Q E s := by
  obtain ⟨⟨cls, dd, data, sl⟩, ho, hc, n, hd⟩ := id ht
  obtain ⟨⟨cls2, dd2, data2, sl2⟩, ho2, hc2, n2, hd2⟩ := id hb
  simp only at hc hd hc2 hd2
  subst hc hd hc2 hd2
  have e : vs.toArray ++ ws.toArray = (vs ++ ws).toArray := by simp
  by_cases hw : ws = []
  · exact concat_meets ⟨_, ho, rfl⟩ ⟨_, ho2, rfl⟩ noFill_tuple_add seq_tuple_add PySem.F.slot_tuple_add PySem.F.entry_tuple_add (PySem.F.args_tuple_add_2 _ _)
      (tuple_addW1 t b vs.toArray ws.toArray n n2 dd dd2 sl sl2 (by simpa using hv) (by simp [hw])) ⟨ho, ho2, h1 hw⟩
  · refine concat_meets ⟨_, ho, rfl⟩ ⟨_, ho2, rfl⟩ noFill_tuple_add seq_tuple_add PySem.F.slot_tuple_add PySem.F.entry_tuple_add (PySem.F.args_tuple_add_2 _ _)
      (tuple_addW2 t b vs.toArray ws.toArray n n2 dd dd2 sl sl2 (by simpa using hv) (by simpa using hw) (by rw [List.size_toArray, List.size_toArray]; exact hsz)) ⟨ho, ho2, ?_⟩
    rw [e]
    exact h2 hw
def sIx (n d : Nat) : Option Int → Nat
  | none => d
  | some v => if v < 0 then (v + (n : Int)).toNat else min v.toNat n
theorem sIx_none (n d : Nat) : sIx n d none = d := rfl
theorem sIx_nat (n d k : Nat) : sIx n d (some (k : Int)) = min k n := by
  show (if (k : Int) < 0 then ((k : Int) + (n : Int)).toNat else min (k : Int).toNat n) = min k n
  rw [if_neg (by omega), Int.toNat_natCast]
theorem sIx_le (n d : Nat) (hd : d ≤ n) (o : Option Int) : sIx n d o ≤ n := by
  cases o with
  | none => exact hd
  | some v =>
    show (if v < 0 then (v + (n : Int)).toNat else min v.toNat n) ≤ n
    by_cases hv : v < 0
    · rw [if_pos hv]; omega
    · rw [if_neg hv]; exact Nat.min_le_right _ _
theorem clip_eq (v : Int) (n d : Nat) : (if v < 0 then max (v + (n : Int)) 0 else min v (n : Int)) = ((sIx n d (some v) : Nat) : Int) := by
  show (if v < 0 then max (v + (n : Int)) 0 else min v (n : Int)) = (((if v < 0 then (v + (n : Int)).toNat else min v.toNat n) : Nat) : Int)
  by_cases hv : v < 0
  · simp only [if_pos hv]; omega
  · simp only [if_neg hv]; omega
theorem adjust_gen (lo hi : Option Int) (n : Nat) : Builtin.Slice.sliceAdjust lo hi 1 (n : Int) = (((sIx n 0 lo : Nat) : Int), ((sIx n n hi : Nat) : Int)) := by
  have h1 : ¬ ((1 : Int) < 0) := by omega
  unfold Builtin.Slice.sliceAdjust
  simp only [h1, if_false]
  refine Prod.ext ?_ ?_
  · cases lo with
    | none => rfl
    | some v => exact clip_eq v n 0
  · cases hi with
    | none => rfl
    | some v => exact clip_eq v n n
theorem places_gen (i j : Nat) : Builtin.Slice.slicePlaces (i : Int) (j : Int) 1 = j - i := by
  unfold Builtin.Slice.slicePlaces
  have h1 : (1 : Int) > 0 := by omega
  simp only [h1, if_true, Int.ediv_one]
  split <;> omega
theorem slicePart_ {v : Value} {o : Option Int} {Q : Option Int → Shared → Prop} (p : IsPart v o) (h : Q o s) : wpAny (model prog w) A (Builtin.Slice.slicePartIndex v) Q E s := by
  cases p with
  | none => exact slicePart_none h
  | int i t => exact slicePart_int h
theorem sliceApplied_gen {sl : Addr} {vl vu : Value} {lo hi : Option Int} {n : Nat} {Q : Int × Int × Nat → Shared → Prop} (hs : s.heap.IsSliceOf sl vl vu .none) (pl : IsPart vl lo) (pu : IsPart vu hi)
    (h : Q (((sIx n 0 lo : Nat) : Int), 1, sIx n n hi - sIx n 0 lo) s) : wpAny (model prog w) A (Builtin.Slice.sliceApplied (.ref sl) (pure (n : Int))) Q E s := by
  obtain ⟨os, hos, hcs, hds⟩ := id hs
  unfold Builtin.Slice.sliceApplied Builtin.Slice.sliceFields
  refine wpAny_bind (wpAny_bind (wpAny_field hos hds (x := vl) rfl (wpAny_bind (wpAny_field hos hds (x := vu) rfl (wpAny_bind (wpAny_field hos hds (x := .none) rfl (wpAny_pure ?_)))))))
  refine wpAny_bind (slicePart_none ?_)
  show wpAny _ _ (if ((1 : Int) == 0) = true then _ else _) _ _ s
  rw [if_neg (by decide)]
  refine wpAny_bind (slicePart_ pl (wpAny_bind (slicePart_ pu (wpAny_bind (wpAny_pure ?_)))))
  show wpAny _ _ (match Builtin.Slice.sliceAdjust lo hi 1 (n : Int) with | (lo, hi) => pure (lo, (1 : Int), Builtin.Slice.slicePlaces lo hi 1)) _ _ s
  rw [adjust_gen lo hi n]
  show wpAny _ _ (pure (((sIx n 0 lo : Nat) : Int), (1 : Int), Builtin.Slice.slicePlaces ((sIx n 0 lo : Nat) : Int) ((sIx n n hi : Nat) : Int) 1)) _ _ s
  rw [places_gen]
  exact wpAny_pure h
theorem pick_gen (xs : Array Value) (i k : Nat) : ((List.range k).filterMap fun (m : Nat) => xs[((i : Int) + (m : Int) * 1).toNat]?).toArray = ((xs.toList.drop i).take k).toArray := by
  have e : (fun (m : Nat) => xs[((i : Int) + (m : Int) * 1).toNat]?) = fun m => xs[i + m]? := by
    funext m
    have : ((i : Int) + (m : Int) * 1).toNat = i + m := by omega
    rw [this]
  rw [e]
  have := pick_run xs i k
  rw [List.filterMap_map] at this
  have e2 : ((fun x => xs[x]?) ∘ fun x => i + x) = fun m => xs[i + m]? := rfl
  rw [e2] at this
  rw [this]
theorem getItem_tuple_cut {t sl : Addr} {items : Array Value} {vl vu : Value} {lo hi : Option Int} {Q : Value → Shared → Prop} (ht : IsTup s.heap t items) (hs : s.heap.IsSliceOf sl vl vu .none) (pl : IsPart vl lo) (pu : IsPart vu hi)
    (hw : ¬ (sIx items.size 0 lo = 0 ∧ sIx items.size items.size hi = items.size))
    (h : Q (.ref s.heap.objs.size) { s with heap := s.heap.push { cls := .type "tuple", data := .seq ((items.toList.drop (sIx items.size 0 lo)).take (sIx items.size items.size hi - sIx items.size 0 lo)).toArray } })
    (hsz : items.size ≤ sizeLine) : wpAny (model prog w) A (getItem (.ref t) (.ref sl)) Q E s := by
  have htake : sizeOk (.seq ((items.toList.drop (sIx items.size 0 lo)).take (sIx items.size items.size hi - sIx items.size 0 lo)).toArray) := by
    show ((items.toList.drop (sIx items.size 0 lo)).take (sIx items.size items.size hi - sIx items.size 0 lo)).toArray.size ≤ sizeLine
    rw [List.size_toArray, List.length_take, List.length_drop, Array.length_toList]
    omega
  have hj : sIx items.size items.size hi ≤ items.size := sIx_le _ _ (Nat.le_refl _) hi
  obtain ⟨os, hos, hcs, hds⟩ := id hs
  have hTs : s.TypeIs (.ref sl) "slice" := ⟨os, hos, hcs⟩
  unfold getItem
  try with_reducible refine wpAny_holding ?_
  first | refine wpAny_bind (wpAny_pure ?_) | skip
  refine wpAny_bind (wpAny_sequenceKey ht.typeIs (by decide) ?_)
  refine wpAny_bind (wpAny_callSpecial?_slot (name := Str.ofString "__getitem__") ht.typeIs PyProof.Rows.slot_tuple_getitem
    (wpAny_call_entry PyProof.Rows.slot_tuple_getitem ht.typeIs entry_tuple_getitem ?_ (args_tuple_getitem _ _)))
  show wpAny _ _ (Builtin.Tuple.tupleItemsOf (.ref t) >>= _) _ _ s
  refine wpAny_bind (tupleItemsOf_ ht ?_)
  refine wpAny_bind (wpAny_typeOf hTs ?_)
  rw [if_pos (by decide)]
  refine wpAny_bind (sliceApplied_gen hs pl pu ?_)
  have hno : ¬ ((((sIx items.size 0 lo : Nat) : Int) == 0 && (1 : Int) == 1 && (sIx items.size items.size hi - sIx items.size 0 lo) == items.size) = true) := by
    intro q
    rw [Bool.and_eq_true, Bool.and_eq_true] at q
    have q1 : ((sIx items.size 0 lo : Nat) : Int) = 0 := eq_of_beq q.1.1
    have q2 : sIx items.size items.size hi - sIx items.size 0 lo = items.size := eq_of_beq q.2
    exact hw ⟨by omega, by omega⟩
  show wpAny _ _ (if (((sIx items.size 0 lo : Nat) : Int) == 0 && (1 : Int) == 1 && (sIx items.size items.size hi - sIx items.size 0 lo) == items.size) = true then _ else _) _ _ s
  rw [if_neg hno, pick_gen]
  first
    | exact wpAny_bind (m := Builtin.Tuple.tupleExact _) (wpAny_newObj_type (wpAny_pure ⟨_, rfl, wpAny_pure h⟩) htake)
    | exact wpAny_bind (m := Builtin.Tuple.tupleExact _) (wpAny_newObj_type (wpAny_bind (wpAny_pure (wpAny_pure ⟨_, rfl, wpAny_pure h⟩))) htake)
    | exact wpAny_bind (wpAny_bind (m := Builtin.Tuple.tupleExact _) (wpAny_newObj_type (wpAny_pure (wpAny_pure ⟨_, rfl, wpAny_pure h⟩)) htake))
    | exact wpAny_bind (wpAny_bind (m := Builtin.Tuple.tupleExact _) (wpAny_newObj_type (wpAny_pure ⟨_, rfl, wpAny_pure h⟩) htake))
end
end HT
namespace L2
open PySem PySem.Spec PyProof.Rows
abbrev TO := St → Hp → (Option Int → Hp → Prop) → Prop
def PO (X : Cx) (e : Option Expr) (t : TO) : Prop :=
  ∀ (pins : List (Addr × Obj)) (s : Shared) (σ : St) (H : Hp) (Q : Option Int → Hp → Prop), Inv X pins σ H s → t σ H Q →
    wpAny (model X.prog X.w) X.A (evalPart e X.env) (fun u s' => ∃ o H', Inv X pins σ H' s' ∧ IsPart u o ∧ Q o H') X.xe s
def tNoPart : TO := fun _ H Q => Q none H
def tPart (t : TE) : TO := fun σ H Q => t σ H fun x H1 => ∃ i, x = .int i ∧ Q (some i) H1
theorem intsAre_of {ns : List Int} : ∀ {us : List Value}, Vals (ns.map V.int) us → IntsAre us ns := by
  induction ns with
  | nil => intro us r; rw [List.map_nil] at r; cases r; exact .nil
  | cons n ns ih =>
    intro us r
    rw [List.map_cons] at r
    cases r with
    | cons r1 r2 =>
      obtain ⟨t, e⟩ := r1
      subst e
      exact .cons n t (ih r2)
section
variable {X : Cx} {e : Expr} {te : TE} {lo hi : Option Expr} {tl th : TO} {pos p2 : Pos}
theorem po_none : PO X none tNoPart := by
  intro pins s σ H Q I h
  rw [evalPart_none]
  exact wpAny_pure ⟨none, H, I, .none, h⟩
theorem po_some (h : PE X e te) : PO X (some e) (tPart te) := by
  intro pins s σ H Q I hw
  rw [evalPart_some]
  refine thn (h pins s σ H _ I hw) fun u s1 ⟨x, H1, I1, r1, q1⟩ => ?_
  obtain ⟨i, rfl, q⟩ := q1
  obtain ⟨t, rfl⟩ := r1
  exact ⟨some i, H1, I1, .int i t, q⟩
def SlR (X : Cx) (r : V → Option Int → Option Int → Hp → VK → Prop) : Prop :=
  ∀ (pins : List (Addr × Obj)) (s : Shared) (σ : St) (H : Hp) (x : V) (v vl vu : Value) (lo hi : Option Int) (sl : Addr) (Q : VK), Inv X pins σ H s → RelV x v → s.heap.IsSliceOf sl vl vu .none → IsPart vl lo → IsPart vu hi → r x lo hi H Q →
    ∃ T id, typeLookup (.type T) "__getitem__" = pure (some (.builtin id)) ∧ s.TypeIs v T ∧ wpAny (model X.prog X.w) X.A (getItem v (.ref sl)) (EP X pins σ Q) X.xe s
theorem SlR.or {r r' : V → Option Int → Option Int → Hp → VK → Prop} (h : SlR X r) (h' : SlR X r') : SlR X (fun x lo hi H Q => r x lo hi H Q ∨ r' x lo hi H Q) := by
  intro pins s σ H x v vl vu lo hi sl Q I rx hs pl pu q
  rcases q with q | q
  · exact h pins s σ H x v vl vu lo hi sl Q I rx hs pl pu q
  · exact h' pins s σ H x v vl vu lo hi sl Q I rx hs pl pu q
def tSl (r : V → Option Int → Option Int → Hp → VK → Prop) (te : TE) (tl th : TO) : TE := fun σ H Q => te σ H fun x H1 => tl σ H1 fun l H2 => th σ H2 fun u H3 => r x l u H3 Q
theorem pe_slice {r : V → Option Int → Option Int → Hp → VK → Prop} (hr : SlR X r) (he : PE X e te) (hl : PO X lo tl) (hu : PO X hi th) : PE X (.Subscript e (.Slice lo hi none p2) pos) (tSl r te tl th) := by
  intro pins s σ H Q I h
  refine Subscript_ (thn (he pins s σ H _ I h) fun v s1 ⟨x, H1, I1, r1, q1⟩ => ?_)
  refine wpAny_Slice (thn (hl pins s1 σ H1 _ I1 q1) fun vl s2 ⟨l, H2, I2, pl, q2⟩ => thn (hu pins s2 σ H2 _ I2 q2) fun vu s3 ⟨u, H3, I3, pu, q3⟩ => ?_)
  rw [evalPart_none]
  refine wpAny_pure ?_
  have I4 : Inv X pins σ H3 { s3 with heap := s3.heap.push { cls := .type "slice", data := .fields #[vl, vu, .none] } } := I3.kept (t' := s3.toks) fun b ob q => Heap.get?_push_of_some _ q
  obtain ⟨T, id, hT, ht, hg⟩ := hr pins { s3 with heap := s3.heap.push { cls := .type "slice", data := .fields #[vl, vu, .none] } } σ H3 x v vl vu l u s3.heap.objs.size Q I4 r1 (Heap.IsSliceOf.new ..) pl pu q3
  show wpAny (model X.prog X.w) X.A (subscriptTail e (.Slice lo hi none p2) v (.ref s3.heap.objs.size)) (EP X pins σ Q) X.xe { s3 with heap := s3.heap.push { cls := .type "slice", data := .fields #[vl, vu, .none] } }
  exact tail_any (ops := [.ref s3.heap.objs.size, v]) ht hT hg (by with_unfolding_all rfl)
def cutV (xs : List V) (lo hi : Option Int) : List V := (xs.drop (HT.sIx xs.length 0 lo)).take (HT.sIx xs.length xs.length hi - HT.sIx xs.length 0 lo)
theorem cutV_length (xs : List V) (lo hi : Option Int) : (cutV xs lo hi).length ≤ xs.length := by
  unfold cutV
  rw [List.length_take, List.length_drop]
  omega
def rSlT (K : PySem.W.Frag) : V → Option Int → Option Int → Hp → VK → Prop := fun x lo hi H Q => ∃ a xs, x = .ref a ∧ SqT K H a xs ∧
  ¬ (HT.sIx xs.length 0 lo = 0 ∧ HT.sIx xs.length xs.length hi = xs.length) ∧ ∀ p, H p = none → Q (.ref p) (upd H p (.tup (cutV xs lo hi)))
theorem sl_tup : SlR X (rSlT X.K) := by
  intro pins s σ H x v vl vu lo hi sl Q I rx hs pl pu h
  obtain ⟨a, xs, rfl, hx, hw, q⟩ := h
  cases rx
  obtain ⟨its, r, ht, hz⟩ := I.tuple hx
  have hlen : its.toArray.size = xs.length := by rw [List.size_toArray]; exact r.length.symm
  refine ⟨"tuple", _, PyProof.Rows.slot_tuple_getitem.lookup, ht.typeIs, ?_⟩
  refine HT.getItem_tuple_cut ht hs pl pu (by rw [hlen]; exact hw) ?_ (by rw [hlen]; exact hz)
  rw [hlen]
  refine ⟨.ref s.heap.objs.size, _, I.laid (t' := s.toks) (o := .tup (cutV xs lo hi)) (fun b ob q => Heap.get?_push_of_some _ q) (Nat.le_refl _) ?_, rfl, q _ (I.hok.fresh (Nat.le_refl _))⟩
  exact ⟨Nat.le_trans (cutV_length xs lo hi) hz, _, (r.drop (HT.sIx xs.length 0 lo)).take (HT.sIx xs.length xs.length hi - HT.sIx xs.length 0 lo), TupN.new _ _⟩
end
def ixN (n : Nat) (i : Int) : Option Nat := if 0 ≤ i then (if i < n then some i.toNat else none) else if -(n : Int) ≤ i then some (i + n).toNat else none
def atI {α : Type} (xs : List α) (i : Int) : Option α := (ixN xs.length i).bind fun j => xs[j]?
theorem ixN_seq {n : Nat} {i : Int} {j : Nat} (h : ixN n i = some j) : seqIndex? i n = some j ∧ j < n ∧ -(n : Int) ≤ i ∧ i < n := by
  unfold ixN at h
  by_cases h0 : 0 ≤ i
  · rw [if_pos h0] at h
    by_cases h1 : i < n
    · rw [if_pos h1] at h
      have e : i.toNat = j := Option.some.inj h
      exact ⟨by rw [seqIndex_of h0 h1, e], by omega, by omega, h1⟩
    · rw [if_neg h1] at h; cases h
  · rw [if_neg h0] at h
    by_cases h1 : -(n : Int) ≤ i
    · rw [if_pos h1] at h
      have e : (i + n).toNat = j := Option.some.inj h
      exact ⟨by rw [seqIndex_neg (by omega) h1, e], by omega, h1, by omega⟩
    · rw [if_neg h1] at h; cases h
theorem atI_get {α : Type} {xs : List α} {i : Int} {v : α} (h : atI xs i = some v) : ∃ j, seqIndex? i xs.length = some j ∧ xs[j]? = some v ∧ j < xs.length ∧ -(xs.length : Int) ≤ i ∧ i < xs.length := by
  unfold atI at h
  cases e : ixN xs.length i with
  | none => rw [e] at h; cases h
  | some j =>
    rw [e] at h
    obtain ⟨h1, h2, h3, h4⟩ := ixN_seq e
    exact ⟨j, h1, h, h2, h3, h4⟩
theorem atI_nat {α : Type} {xs : List α} {j : Nat} {v : α} (h : xs[j]? = some v) : atI xs (j : Int) = some v := by
  have hj : j < xs.length := (List.getElem?_eq_some_iff.mp h).1
  have e : ixN xs.length (j : Int) = some j := by
    unfold ixN
    rw [if_pos (by omega), if_pos (by omega)]; simp
  unfold atI; rw [e]; exact h
def PlainIx (b : Expr) : Prop := ∀ o i, subscripted b false o i = operate [o, i] (getItem o i)
def IxR (X : Cx) (r : R2) : Prop :=
  ∀ (value slice : Expr) (pins : List (Addr × Obj)) (s : Shared) (σ : St) (H : Hp) (x y : V) (v u : Value) (Q : VK), Inv X pins σ H s → RelV x v → RelV y u → r x y H Q →
    subscripted slice false v u = operate [v, u] (getItem v u) → wpAny (model X.prog X.w) X.A (subscriptTail value slice v u) (EP X pins σ Q) X.xe s
def MtR (X : Cx) (id : String) (r : V → List V → Hp → VK → Prop) : Prop :=
  ∀ (pins : List (Addr × Obj)) (s : Shared) (σ : St) (H : Hp) (x : V) (xs : List V) (v : Value) (us : List Value) (Q : VK), Inv X pins σ H s → RelV x v → Vals xs us → r x xs H Q →
    wpAny (model X.prog X.w) X.A (call (.builtin id) (v :: us)) (EP X pins σ Q) X.xe s
section
variable {X : Cx} {a b : Expr} {ta tb : TE} {pos : Pos}
theorem IxR.or {r r' : R2} (h : IxR X r) (h' : IxR X r') : IxR X (fun x y H Q => r x y H Q ∨ r' x y H Q) := by
  intro value slice pins s σ H x y v u Q I rx ry q hs
  rcases q with q | q
  · exact h value slice pins s σ H x y v u Q I rx ry q hs
  · exact h' value slice pins s σ H x y v u Q I rx ry q hs
theorem pe_ix {r : R2} (hr : IxR X r) (ha : PE X a ta) (hb : PE X b tb) (hs : PlainIx b) : PE X (.Subscript a b pos) (tOp r ta tb) := by
  intro pins s σ H Q I h
  exact Subscript_ (binT ha hb I h fun v u s2 x y H2 I2 rx ry q => hr a b pins s2 σ H2 x y v u Q I2 rx ry q (hs _ _))
def rIxL (K : PySem.W.Frag) : R2 := fun x y H Q => ∃ p xs i v, x = .ref p ∧ y = .int i ∧ SqL K H p xs ∧ atI xs i = some v ∧ Q v H
def rIxT (K : PySem.W.Frag) : R2 := fun x y H Q => ∃ p xs i v, x = .ref p ∧ y = .int i ∧ SqT K H p xs ∧ atI xs i = some v ∧ Q v H
def rIxS : R2 := fun x y H Q => ∃ z i c, x = .str z ∧ y = .int i ∧ z.length ≤ sizeLine ∧ atI z.cps.toList i = some c ∧ Q (.str ⟨#[c]⟩) H
theorem ix_list : IxR X (rIxL X.K) := by
  intro value slice pins s σ H x y v u Q I rx ry h hs
  obtain ⟨p, xs, i, z, rfl, rfl, hq, he, q⟩ := h
  cases rx
  obtain ⟨t, rfl⟩ := ry
  obtain ⟨its, r, pl, hz⟩ := I.list hq
  obtain ⟨j, h1, h2, h3, h4, h5⟩ := atI_get he
  obtain ⟨w, ew, rw'⟩ := r.get h2
  have hl := r.length
  have hn := line63
  have fin : EP X pins σ Q w s := ⟨z, H, I, rw', q⟩
  by_cases h0 : 0 ≤ i
  · have hj : i.toNat = j := by
      rw [seqIndex_of h0 h5] at h1
      exact Option.some.inj h1
    exact item_listR pl.isList h0 (by omega) (by rw [hj]; simpa using ew) fin hs
  · have hj : (i + (its.toArray.size : Int)).toNat = j := by
      rw [seqIndex_neg (by omega) h4] at h1
      rw [List.size_toArray, ← hl]
      exact Option.some.inj h1
    exact subscriptTail_builtinR (x := w) pl.isList.typeIs slot_list_getitem.lookup
      (wpAny_getItem_list_neg (Q := fun r s' => r = w ∧ EP X pins σ Q r s') pl.isList (by omega) (by rw [List.size_toArray] <;> omega) (by omega) (by rw [hj]; simpa using ew) ⟨rfl, fin⟩) hs
theorem ix_tup : IxR X (rIxT X.K) := by
  intro value slice pins s σ H x y v u Q I rx ry h hs
  obtain ⟨p, xs, i, z, rfl, rfl, hq, he, q⟩ := h
  cases rx
  obtain ⟨t, rfl⟩ := ry
  obtain ⟨its, r, pl, hz⟩ := I.tuple hq
  obtain ⟨j, h1, h2, h3, h4, h5⟩ := atI_get he
  obtain ⟨w, ew, rw'⟩ := r.get h2
  have hl := r.length
  have hn := line63
  have fin : EP X pins σ Q w s := ⟨z, H, I, rw', q⟩
  exact subscriptTail_builtinR (x := w) pl.typeIs slot_tuple_getitem.lookup
    (getItem_tuple (j := j) (Q := fun r s' => r = w ∧ EP X pins σ Q r s') pl (by omega) (by omega) (by rw [List.size_toArray, ← hl]; exact h1) (by simpa using ew) ⟨rfl, fin⟩) hs
theorem ix_str : IxR X rIxS := by
  intro value slice pins s σ H x y v u Q I rx ry h hs
  obtain ⟨z, i, c, rfl, rfl, hz, he, q⟩ := h
  obtain ⟨t, rfl⟩ := rx
  obtain ⟨t', rfl⟩ := ry
  obtain ⟨j, h1, h2, h3, h4, h5⟩ := atI_get he
  have hl : z.cps.toList.length = z.length := by simp [Str.length]
  rw [hl] at h1 h4 h5
  have hn := line63
  exact tail_any (typeIs_str s z t) slot_str_getitem.lookup (getItem_str (c := c) (by
    have e1 : decide (i < -(2 ^ 63 : Int)) = false := decide_eq_false (by omega)
    have e2 : decide (i ≥ 2 ^ 63) = false := decide_eq_false (by omega)
    rw [e1, e2, Bool.or_false]) (by rw [h1]; simpa using h2) ⟨.str ⟨#[c]⟩, H, I.tok _, ⟨_, rfl⟩, q⟩) hs
def rIx (K : PySem.W.Frag) : R2 := fun x y H Q => rIxL K x y H Q ∨ rIxT K x y H Q ∨ rIxS x y H Q
theorem ix_seq : IxR X (rIx X.K) := ix_list.or (ix_tup.or ix_str)
theorem slice_bounds (lo hi : Option Int) (n : Nat) : (sliceBounds lo hi none n).1 = ((HT.sIx n 0 lo : Nat) : Int) ∧ (sliceBounds lo hi none n).2.1 = ((HT.sIx n n hi : Nat) : Int) ∧ (sliceBounds lo hi none n).2.2 = 1 := by
  refine ⟨?_, ?_, rfl⟩
  · cases lo with
    | none => simp [sliceBounds, HT.sIx]
    | some i =>
      simp only [sliceBounds, HT.sIx, Option.getD_none, show (1 : Int) > 0 by decide, if_true]
      by_cases h : i < 0
      · simp only [h, if_true] <;> omega
      · simp only [h, if_false] <;> omega
  · cases hi with
    | none => simp [sliceBounds, HT.sIx]
    | some i =>
      simp only [sliceBounds, HT.sIx, Option.getD_none, show (1 : Int) > 0 by decide, if_true]
      by_cases h : i < 0
      · simp only [h, if_true] <;> omega
      · simp only [h, if_false] <;> omega
theorem slicePick_cut (its : List Value) (lo hi : Option Int) : slicePick its.toArray lo hi none = ((its.drop (HT.sIx its.length 0 lo)).take (HT.sIx its.length its.length hi - HT.sIx its.length 0 lo)).toArray := by
  obtain ⟨h1, h2, h3⟩ := slice_bounds lo hi its.toArray.size
  unfold slicePick
  rw [h1, h2, h3]
  simp only [sliceRange_one, pick_run, List.size_toArray] <;> rfl
def rSlL (K : PySem.W.Frag) : V → Option Int → Option Int → Hp → VK → Prop := fun x lo hi H Q => ∃ a xs, x = .ref a ∧ SqL K H a xs ∧ ∀ p, H p = none → Q (.ref p) (upd H p (.lst (cutV xs lo hi)))
theorem sl_list : SlR X (rSlL X.K) := by
  intro pins s σ H x v vl vu lo hi sl Q I rx hs pl pu h
  obtain ⟨a, xs, rfl, hx, q⟩ := h
  cases rx
  obtain ⟨its, r, ht, hz⟩ := I.list hx
  have hlen := r.length
  refine ⟨"list", _, slot_list_getitem.lookup, ht.isList.typeIs, ?_⟩
  refine wpAny_getItem_list_slice ht.isList hs pl pu .none (by simp) ?_ (by rw [List.size_toArray] <;> omega)
  rw [slicePick_cut, ← hlen]
  refine ⟨.ref s.heap.objs.size, _, I.laid (t' := s.toks) (o := .lst (cutV xs lo hi)) (fun b ob q => Heap.get?_push_of_some _ q) (Nat.le_refl _) ?_, rfl, q _ (I.hok.fresh (Nat.le_refl _))⟩
  exact ⟨Nat.le_trans (cutV_length xs lo hi) hz, _, 0, (r.drop (HT.sIx xs.length 0 lo)).take (HT.sIx xs.length xs.length hi - HT.sIx xs.length 0 lo), Heap.get?_push_size _ rfl⟩
def flatV : V → Bool
  | .non => true
  | .bl _ => true
  | .int _ => true
  | .str _ => true
  | _ => false
def eqV : V → V → Bool
  | .non, .non => true
  | .bl a, .bl b => a == b
  | .bl a, .int b => (if a then 1 else 0) == b
  | .int a, .bl b => a == (if b then 1 else 0)
  | .int a, .int b => a == b
  | .str a, .str b => a == b
  | _, _ => false
theorem eqAt_V {A : Around} {s : Shared} {y x : V} {u v : Value} (ry : RelV y u) (rx : RelV x v) (fy : flatV y = true) (fx : flatV x = true) : SeqAt.EqAt A s u v (eqV y x) := by
  cases y with
  | non =>
    cases ry
    cases x with
    | non => cases rx; exact SeqAt.EqAt.same _
    | bl b => cases rx; exact SeqAt.EqAt.none_bool b
    | int b => obtain ⟨t, rfl⟩ := rx; exact SeqAt.EqAt.none_int b t
    | str b => obtain ⟨t, rfl⟩ := rx; exact SeqAt.EqAt.none_str b t
    | _ => exact absurd (show false = true from fx) Bool.false_ne_true
  | bl a =>
    cases ry
    cases x with
    | non => cases rx; exact SeqAt.EqAt.bool_none a
    | bl b => cases rx; exact SeqAt.EqAt.bool_bool a b
    | int b => obtain ⟨t, rfl⟩ := rx; exact SeqAt.EqAt.bool_int a b t
    | str b => obtain ⟨t, rfl⟩ := rx; exact SeqAt.EqAt.bool_str a b t
    | _ => exact absurd (show false = true from fx) Bool.false_ne_true
  | int a =>
    obtain ⟨t', rfl⟩ := ry
    cases x with
    | non => cases rx; exact SeqAt.EqAt.int_none a t'
    | bl b => cases rx; exact SeqAt.EqAt.int_bool a t' b
    | int b => obtain ⟨t, rfl⟩ := rx; exact SeqAt.EqAt.int_int a t' b t
    | str b => obtain ⟨t, rfl⟩ := rx; exact SeqAt.EqAt.int_str a t' b t
    | _ => exact absurd (show false = true from fx) Bool.false_ne_true
  | str a =>
    obtain ⟨t', rfl⟩ := ry
    cases x with
    | non => cases rx; exact SeqAt.EqAt.str_none a t'
    | bl b => cases rx; exact SeqAt.EqAt.str_bool a t' b
    | int b => obtain ⟨t, rfl⟩ := rx; exact SeqAt.EqAt.str_int a t' b t
    | str b => obtain ⟨t, rfl⟩ := rx; exact SeqAt.EqAt.str_str a t' b t
    | _ => exact absurd (show false = true from fx) Bool.false_ne_true
  | _ => exact absurd (show false = true from fy) Bool.false_ne_true
def eqU (x : V) (u : Value) : Bool := match u with
  | .none => eqV .non x
  | .bool b => eqV (.bl b) x
  | .int i _ => eqV (.int i) x
  | .str z _ => eqV (.str z) x
  | _ => false
theorem eqU_of {x y : V} {u : Value} (r : RelV y u) (f : flatV y = true) : eqU x u = eqV y x := by
  cases y with
  | non => cases r; rfl
  | bl b => cases r; rfl
  | int i => obtain ⟨t, rfl⟩ := r; rfl
  | str z => obtain ⟨t, rfl⟩ := r; rfl
  | _ => exact absurd (show false = true from f) Bool.false_ne_true
theorem any_eqU {x : V} : ∀ {xs : List V} {us : List Value}, Vals xs us → xs.all flatV = true → us.any (eqU x) = xs.any fun y => eqV y x
  | _, _, .nil, _ => rfl
  | y :: xs, u :: us, .cons r t, f => by
    rw [List.all_cons, Bool.and_eq_true] at f
    rw [List.any_cons, List.any_cons, eqU_of r f.1, any_eqU t f.2]
theorem mem_eqAt {A : Around} {s : Shared} {x : V} {v : Value} (rx : RelV x v) (fx : flatV x = true) : ∀ {xs : List V} {us : List Value}, Vals xs us → xs.all flatV = true → ∀ u ∈ us, SeqAt.EqAt A s u v (eqU x u)
  | _, _, .nil, _ => fun u hu => by cases hu
  | y :: xs, u :: us, .cons r t, f => fun u' hu => by
    rw [List.all_cons, Bool.and_eq_true] at f
    rcases List.mem_cons.mp hu with rfl | hu
    · rw [eqU_of r f.1]; exact eqAt_V r rx f.1 fx
    · exact mem_eqAt rx fx t f.2 u' hu
def inV (x : V) (xs : List V) : Bool := xs.any fun y => eqV y x
def rIn (K : PySem.W.Frag) (neg : Bool) : R2 := fun x y H Q => ∃ p xs, y = .ref p ∧ (SqL K H p xs ∨ SqT K H p xs) ∧ flatV x = true ∧ xs.all flatV = true ∧ Q (.bl (if neg then !inV x xs else inV x xs)) H
theorem op_in_seq : OpR X (compareOp .In) (rIn X.K false) := by
  intro pins s σ H x y v u Q I rx ry h
  obtain ⟨p, xs, rfl, hq, fx, fs, q⟩ := h
  cases ry
  rcases hq with hq | hq
  · obtain ⟨its, r, pl, hz⟩ := I.list hq
    refine SeqAt.in_listAt (eqU x) pl.isList (fun w hw => mem_eqAt rx fx r fs w (by simpa using hw)) ⟨.bl _, H, I, rfl, ?_⟩
    rw [show its.toArray.any (eqU x) = its.any (eqU x) by simp, any_eqU r fs]
    exact q
  · obtain ⟨its, r, pl, hz⟩ := I.tuple hq
    refine SeqAt.in_tupleAt (eqU x) pl (fun w hw => mem_eqAt rx fx r fs w (by simpa using hw)) ⟨.bl _, H, I, rfl, ?_⟩
    rw [show its.toArray.any (eqU x) = its.any (eqU x) by simp, any_eqU r fs]
    exact q
theorem op_notIn_seq : OpR X (compareOp .NotIn) (rIn X.K true) := by
  intro pins s σ H x y v u Q I rx ry h
  obtain ⟨p, xs, rfl, hq, fx, fs, q⟩ := h
  cases ry
  rcases hq with hq | hq
  · obtain ⟨its, r, pl, hz⟩ := I.list hq
    refine SeqAt.notIn_listAt (eqU x) pl.isList (fun w hw => mem_eqAt rx fx r fs w (by simpa using hw)) ⟨.bl _, H, I, rfl, ?_⟩
    rw [show its.toArray.any (eqU x) = its.any (eqU x) by simp, any_eqU r fs]
    exact q
  · obtain ⟨its, r, pl, hz⟩ := I.tuple hq
    refine SeqAt.notIn_tupleAt (eqU x) pl (fun w hw => mem_eqAt rx fx r fs w (by simpa using hw)) ⟨.bl _, H, I, rfl, ?_⟩
    rw [show its.toArray.any (eqU x) = its.any (eqU x) by simp, any_eqU r fs]
    exact q
theorem call_len_str : CallR X (.builtin "len") (fun xs H Q => ∃ z, xs = [.str z] ∧ z.length ≤ sizeLine ∧ Q (.int z.length) H) := by
  intro pins s σ H xs us Q I r h
  obtain ⟨z, rfl, hz, q⟩ := h
  obtain ⟨u, rfl, t, rfl⟩ := vals1 r
  have hn := line63
  exact len_str (by omega) ⟨.int z.length, H, I.tok _, ⟨_, rfl⟩, q⟩
theorem CallR.or {f : Value} {r r' : List V → Hp → VK → Prop} (h : CallR X f r) (h' : CallR X f r') : CallR X f (fun xs H Q => r xs H Q ∨ r' xs H Q) := by
  intro pins s σ H xs us Q I rs q
  rcases q with q | q
  · exact h pins s σ H xs us Q I rs q
  · exact h' pins s σ H xs us Q I rs q
theorem call_list_of : CallR X (.type "list") (fun xs H Q => ∃ p ys, xs = [.ref p] ∧ (SqL X.K H p ys ∨ SqT X.K H p ys) ∧ ∀ l, H l = none → Q (.ref l) (upd H l (.lst ys))) := by
  intro pins s σ H xs us Q I r h
  obtain ⟨p, ys, rfl, hq, q⟩ := h
  obtain ⟨u, rfl, rx⟩ := vals1 r
  cases rx
  have fin : ∀ (its : List Value), Vals ys its → ys.length ≤ sizeLine → ∀ (h' : Heap) (c' : Nat), (∀ b o', s.heap.get? b = some o' → h'.get? b = some o') →
      h'.get? s.heap.objs.size = some { cls := .type "list", dict := none, data := .seq its.toArray c', slots := #[] } → EP X pins σ Q (.ref s.heap.objs.size) { s with heap := h' } := fun its r' hz h' c' kp e =>
    ⟨.ref s.heap.objs.size, _, I.laid (t' := s.toks) kp (Nat.le_refl _) (show ObjOk X.prog X.w _ h' _ (.lst ys) from ⟨hz, its, c', r', e⟩), rfl, q _ (I.hok.fresh (Nat.le_refl _))⟩
  rcases hq with hq | hq
  · obtain ⟨its, r', pl, hz⟩ := I.list hq
    have hlen := r'.length
    obtain ⟨o, ho, hc, n, hd⟩ := pl.isList
    exact call_list_seq p (.inl rfl) ho hc hd (fun h' c' kp e => fin its r' hz h' c' kp e) (by simp only [List.size_toArray] <;> omega)
  · obtain ⟨its, r', pl, hz⟩ := I.tuple hq
    have hlen := r'.length
    obtain ⟨o, ho, hc, n, hd⟩ := pl
    exact call_list_seq p (.inr rfl) ho hc hd (fun h' c' kp e => fin its r' hz h' c' kp e) (by simp only [List.size_toArray] <;> omega)
theorem call_tuple_of : CallR X (.type "tuple") (fun xs H Q => ∃ p ys, xs = [.ref p] ∧ ((SqL X.K H p ys ∧ ∀ l, H l = none → Q (.ref l) (upd H l (.tup ys))) ∨ (SqT X.K H p ys ∧ Q (.ref p) H))) := by
  intro pins s σ H xs us Q I r h
  obtain ⟨p, ys, rfl, h⟩ := h
  obtain ⟨u, rfl, rx⟩ := vals1 r
  cases rx
  rcases h with ⟨hq, q⟩ | ⟨hq, q⟩
  · obtain ⟨its, r', pl, hz⟩ := I.list hq
    have hlen := r'.length
    refine call_tuple_list pl.isList (fun h' kp => ?_) (by simp only [List.size_toArray] <;> omega)
    have I1 : Inv X pins σ H { s with heap := h' } := I.kept (t' := s.toks) kp
    have I2 : Inv X pins σ (upd H h'.objs.size (.tup ys)) { s with heap := h'.push { cls := .type "tuple", data := .seq its.toArray } } :=
      I1.laid (t' := s.toks) (fun b o e => Heap.get?_push_of_some _ e) (Nat.le_refl _) (show ObjOk X.prog X.w _ _ _ (.tup ys) from ⟨hz, its, r', TupN.new _ _⟩)
    exact ⟨.ref h'.objs.size, _, I2, rfl, q _ (I1.hok.fresh (Nat.le_refl _))⟩
  · obtain ⟨its, r', pl, hz⟩ := I.tuple hq
    exact call_tuple_same pl ⟨.ref p, H, I, rfl, q⟩
def tyV (K : PySem.W.Frag) (T : String) (x : V) (H : Hp) : Prop := match x with
  | .str _ => T = "str"
  | .int _ => T = "int"
  | .ref p => (T = "list" ∧ ∃ xs, SqL K H p xs) ∨ (T = "tuple" ∧ ∃ o, K.lookup p = some o ∧ o.cls = .type "tuple" ∧ o.dict = none) ∨
      (T = "dict" ∧ ((∃ kvs, H p = some (.dK kvs)) ∨ ∃ kvs, H p = some (.dT kvs))) ∨ (T = "set" ∧ ∃ S n, H p = some (.set S n))
  | _ => False
theorem tyV_is {pins : List (Addr × Obj)} {σ : St} {H : Hp} {s : Shared} {T : String} {x : V} {v : Value} (I : Inv X pins σ H s) (r : RelV x v) (ty : tyV X.K T x H) :
    s.TypeIs v T ∧ ∀ a, v = .ref a → ∃ ob, s.heap.get? a = some ob ∧ ob.dict = none := by
  cases x with
  | str z =>
    obtain ⟨t, rfl⟩ := r
    cases (show T = "str" from ty)
    exact ⟨typeIs_str s z t, fun _ e => nomatch e⟩
  | int i =>
    obtain ⟨t, rfl⟩ := r
    cases (show T = "int" from ty)
    exact ⟨typeIs_int s i t, fun _ e => nomatch e⟩
  | ref p =>
    cases r
    rcases ty with ⟨rfl, xs, hq⟩ | ⟨rfl, o, hk, hc, hd⟩ | ⟨rfl, hk⟩ | ⟨rfl, S, n, hk⟩
    · obtain ⟨its, _, pl, _⟩ := I.list hq
      refine ⟨pl.isList.typeIs, fun a e => ?_⟩
      cases e
      obtain ⟨o, n, e, c, hd, _⟩ := pl
      exact ⟨o, e, hd⟩
    · refine ⟨⟨o, I.kIn p o hk, hc⟩, fun a e => ?_⟩
      cases e
      exact ⟨o, I.kIn _ o hk, hd⟩
    · have z : ∃ o, s.heap.get? p = some o ∧ o.ExactDict := by
        rcases hk with ⟨kvs, hk⟩ | ⟨kvs, hk⟩
        · obtain ⟨_, _, _, _, o, _, _, e, ex, _⟩ := I.hok p _ hk
          exact ⟨o, e, ex⟩
        · obtain ⟨_, _, _, _, o, _, _, e, ex, _⟩ := I.hok p _ hk
          exact ⟨o, e, ex⟩
      obtain ⟨o, e, ex⟩ := z
      refine ⟨⟨o, e, ex.1⟩, fun a e2 => ?_⟩
      cases e2
      exact ⟨o, e, ex.2.1⟩
    · obtain ⟨o, _, _, _, e, ex, _⟩ := I.hok p _ hk
      refine ⟨⟨o, e, ex.1⟩, fun a e2 => ?_⟩
      cases e2
      exact ⟨o, e, ex.2.1⟩
  | _ => exact False.elim ty
def tBM (K : PySem.W.Frag) (T : String) (r : V → List V → Hp → VK → Prop) (to : TE) (t : TA) : TE := fun σ H Q => to σ H fun x H1 => tyV K T x H1 ∧ t σ H1 fun xs H2 => r x xs H2 Q
variable {o e : Expr} {es : List Expr} {to : TE} {t : TA} {name : Str} {apos cpos : Pos} {T id : String} {r : V → List V → Hp → VK → Prop}
theorem pe_bm (pa : PlainAttrs T) (slot : Slot T name id) (hty : typeOf (.builtin id) = pure (.type "method_descriptor")) (hm : MtR X id r) (ho : PE X o to) (ha : PA X (e :: es) t)
    (hbase : attributeBase o name X.env (eval o X.env) = eval o X.env := by rfl)
    (hfew : ((backTo cpos (starEach (e :: es) X.env)).all (fun x => !x.1) && (backToKw cpos (keywordEach [] X.env)).all (fun x => x.1.isSome)
      && decide ((e :: es).length + ([] : List Keyword).length + (if ([] : List Keyword).isEmpty then 0 else 1) < 30)) = true := by rfl)
    (hline : (apos.endLine == cpos.line) = true := by rfl) (hs : starEach (e :: es) X.env = (false, eval e X.env) :: starEach es X.env := by rfl) (hplain : (backTo cpos (starEach es X.env)).any (·.1) = false := by rfl) :
    PE X (.Call (.Attribute o name apos) (e :: es) [] cpos) (tBM X.K T r to t) := by
  intro pins s σ H Q I h
  refine wpAny_Call_method_late hbase hfew hline rfl (thn (ho pins s σ H _ I h) fun v s1 ⟨x, H1, I1, r1, ty, q1⟩ => ?_)
  obtain ⟨h1, h2⟩ := tyV_is I1 r1 ty
  refine ⟨T, id, pa, slot, hty, h1, h2, ?_⟩
  have hA := ha cpos pins s1 σ H1 _ I1 q1
  rw [hs] at hA ⊢
  refine Calls.callWith_builtin (by show (false || (backTo cpos (starEach es X.env)).any (·.1)) = false; rw [hplain] <;> rfl) (Calls.evalArgs_plain ?_)
  exact thn hA fun us s2 ⟨vs, H2, I2, r2, q2⟩ => hm pins s2 σ H2 x vs v us Q I2 r1 r2 q2
end
def MtM (X : Cx) (id : String) (r : V → List V → Hp → VK → Prop) : Prop :=
  ∀ (pins : List (Addr × Obj)) (s : Shared) (σ : St) (H : Hp) (x : V) (xs : List V) (v : Value) (us : List Value) (Q : VK), Inv X pins σ H s → RelV x v → Vals xs us → r x xs H Q →
    wpAny (model X.prog X.w) X.A (call (.builtin id) (v :: us)) (EP X pins σ Q) X.xe s
theorem Vals.one : ∀ {x : V} {us : List Value}, Vals [x] us → ∃ u, us = [u] ∧ RelV x u
  | _, _, .cons r .nil => ⟨_, rfl, r⟩
theorem Vals.rep {xs : List V} {us : List Value} (h : Vals xs us) : ∀ k : Nat, Vals (List.replicate k xs).flatten (List.replicate k us).flatten
  | 0 => .nil
  | k + 1 => by
    rw [List.replicate_succ, List.replicate_succ, List.flatten_cons, List.flatten_cons]
    exact Vals.append h (Vals.rep h k)
theorem foldl_rep (its : List Value) : ∀ (k : Nat) (acc : List Value),
    List.foldl (fun x1 x2 => x1 ++ x2) acc.toArray (List.replicate k its.toArray) = (acc ++ (List.replicate k its).flatten).toArray
  | 0, acc => by simp
  | k + 1, acc => by
    have e : acc.toArray ++ its.toArray = (acc ++ its).toArray := by simp
    have e2 : (acc ++ its) ++ (List.replicate k its).flatten = acc ++ (List.replicate (k + 1) its).flatten := by
      rw [List.replicate_succ, List.flatten_cons, List.append_assoc]
    rw [← e2, ← foldl_rep its k (acc ++ its), ← e, List.replicate_succ, List.foldl_cons]
section
variable {X : Cx} {pins : List (Addr × Obj)} {σ : St} {H : Hp} {s : Shared} {l b : Addr} {xs ys zs : List V}
theorem Inv.lset {its its' : List Value} {n : Nat} {f : Array Value → Array Value} {t' : Nat} (I : Inv X pins σ H s) (hH : H l = some (.lst xs))
    (e : s.heap.get? l = some { cls := .type "list", data := .seq its.toArray n }) (hf : f its.toArray = its'.toArray) (hv : Vals ys its') (hz : ys.length ≤ sizeLine) :
    Inv X pins σ (upd H l (.lst ys)) { s with heap := s.heap.update l (Obj.mapSeq f), toks := t' } := by
  have q := PySem.IsL.update e f
  rw [hf] at q
  refine I.write (x := l) (e := l) (by rw [hH]; exact trivial) (.inl rfl) (fun b' u hb hu => (Heap.get?_update_other s.heap (Obj.mapSeq f) (Ne.symm hb)).trans hu) ⟨_, q⟩ ?_
  exact ⟨hz, its', _, hv, q⟩
theorem Inv.lnew {its : List Value} {t' : Nat} (I : Inv X pins σ H s) (hv : Vals ys its) (hz : ys.length ≤ sizeLine) :
    Inv X pins σ (upd H s.heap.objs.size (.lst ys)) { s with heap := s.heap.push { cls := .type "list", data := .seq its.toArray }, toks := t' } :=
  I.laid (fun _ _ q => Heap.get?_push_of_some _ q) (Nat.le_refl _) ⟨hz, its, 0, hv, Heap.get?_push_size _ rfl⟩
theorem Inv.fresh (I : Inv X pins σ H s) : H s.heap.objs.size = none := I.hok.fresh (Nat.le_refl _)
theorem Inv.lstM (I : Inv X pins σ H s) (hH : H l = some (.lst xs)) : xs.length ≤ sizeLine ∧ ∃ (its : List Value) (n : Nat), Vals xs its ∧ xs.length = its.length ∧ s.heap.get? l = some { cls := .type "list", data := .seq its.toArray n } := by
  obtain ⟨z, its, n, r, e⟩ := I.hok l _ hH
  exact ⟨z, its, n, r, r.length, e⟩
theorem notLongL {n : Nat} (h : n ≤ sizeLine) : Builtin.List.listTooLong n = false := by
  unfold Builtin.List.listTooLong
  exact decide_eq_false (by omega)
end
section
variable {X : Cx}
def rAppend : V → List V → Hp → VK → Prop := fun x vs H Q => ∃ l xs y, x = .ref l ∧ vs = [y] ∧ H l = some (.lst xs) ∧ xs.length < sizeLine ∧ Q .non (upd H l (.lst (xs ++ [y])))
theorem mt_append : MtM X "list.append" rAppend := by
  intro pins s σ H x vs v us Q I rx rv h
  obtain ⟨l, xs, y, rfl, rfl, hH, hz, q⟩ := h
  cases rx
  obtain ⟨u, rfl, ru⟩ := rv.one
  obtain ⟨z, its, n, r, hl, e⟩ := I.lstM hH
  refine call_meets F.slot_list_append ⟨_, e, rfl⟩ F.entry_list_append (F.args_list_append_2 _ _) (PySem.list_append l its.toArray n u (by rw [List.size_toArray]; omega)) ⟨e, ?_⟩
  refine ⟨.non, _, I.lset (its' := its ++ [u]) hH e (by simp) (r.append (.cons ru .nil)) ?_, rfl, q⟩
  rw [List.length_append, List.length_singleton]
  omega
def rCat : R2 := fun x y H Q => ∃ l b xs zs, x = .ref l ∧ y = .ref b ∧ H l = some (.lst xs) ∧ H b = some (.lst zs) ∧ xs.length + zs.length ≤ sizeLine ∧ ∀ p, H p = none → Q (.ref p) (upd H p (.lst (xs ++ zs)))
theorem op_cat : OpR X (binaryOp .Add) rCat := by
  intro pins s σ H x y v u Q I rx ry h
  obtain ⟨l, b, xs, zs, rfl, rfl, hH, hB, hz, q⟩ := h
  cases rx
  cases ry
  obtain ⟨z, its, n, r, hl, e⟩ := I.lstM hH
  obtain ⟨z2, its2, n2, r2, hl2, e2⟩ := I.lstM hB
  refine PySem.P.add_list e e2 ?_ (by rw [List.size_toArray, List.size_toArray]; omega)
  have ea : its.toArray ++ its2.toArray = (its ++ its2).toArray := by simp
  rw [ea]
  exact ⟨.ref _, _, I.lnew (t' := s.toks) (r.append r2) (by rw [List.length_append]; omega), rfl, q _ I.fresh⟩
def rRep : R2 := fun x y H Q => ∃ l k xs, x = .ref l ∧ y = .int k ∧ H l = some (.lst xs) ∧ -(2 ^ 63) ≤ k ∧ k < 2 ^ 63 ∧ xs.length * k.toNat ≤ sizeLine ∧
  ∀ p, H p = none → Q (.ref p) (upd H p (.lst (List.replicate k.toNat xs).flatten))
theorem len_rep {α : Type} (xs : List α) (k : Nat) : (List.replicate k xs).flatten.length = k * xs.length := by
  induction k with
  | zero => simp
  | succ k ih => rw [List.replicate_succ, List.flatten_cons, List.length_append, ih, Nat.succ_mul, Nat.add_comm]
theorem op_rep : OpR X (binaryOp .Mult) rRep := by
  intro pins s σ H x y v u Q I rx ry h
  obtain ⟨l, k, xs, rfl, rfl, hH, h1, h2, hz, q⟩ := h
  cases rx
  obtain ⟨t, rfl⟩ := ry
  obtain ⟨z, its, n, r, hl, e⟩ := I.lstM hH
  have hlen : its.toArray.size * k.toNat ≤ sizeLine := by rw [List.size_toArray, ← hl]; exact hz
  have hcap : ¬ its.toArray.size * k.toNat > (2 ^ 63 - 1) / 8 := by
    have : (sizeLine : Nat) ≤ (2 ^ 63 - 1) / 8 := by decide
    omega
  have hfit : ¬ (!Builtin.List.listFitsIndex k) = true := by
    rw [fitsIndex_both h1 h2]
    exact Bool.false_ne_true
  have hlong : ¬ Builtin.List.listTooLong (its.toArray.size * k.toNat) = true := by
    rw [notLongL hlen]
    exact Bool.false_ne_true
  have hnew : List.foldl (fun x1 x2 => x1 ++ x2) #[] (List.replicate (if its.toArray.isEmpty = true then 0 else k.toNat) its.toArray) = (List.replicate k.toNat its).flatten.toArray := by
    have f0 : ∀ m : Nat, List.foldl (fun x1 x2 => x1 ++ x2) #[] (List.replicate m its.toArray) = (List.replicate m its).flatten.toArray := fun m => by
      have := foldl_rep its m []
      rw [List.nil_append] at this
      exact this
    rw [f0]
    cases its with
    | nil => simp
    | cons a r' => rw [if_neg (by simp)]
  refine wpAny_binaryOp_repeat_ref (T := "list") (U := "int") (by decide) ⟨_, e, rfl⟩ (fun s' => typeIs_int s' k t) noFill_list_mul F.fills_int_mul F.slot_int_rmul repeat_list F.slot_int_index.lookup
    (call_meets F.slot_int_rmul (typeIs_int s k t) F.entry_int_rmul (F.args_int_rmul_2 _ _) (int___rmul___int_list k t l its.toArray n)
      ⟨e, rfl, ⟨_, e, rfl⟩, call_meets F.slot_list_mul ⟨_, e, rfl⟩ F.entry_list_mul (F.args_list_mul_2 _ _) (AutoListH.list___mul___list_int_3 l its.toArray n k t hfit hcap hlong) ⟨e, ?_⟩⟩)
  rw [hnew]
  exact ⟨.ref _, _, I.lnew (t' := s.toks) (r.rep k.toNat) (by rw [len_rep, Nat.mul_comm]; exact hz), rfl, q _ I.fresh⟩
end
structure M1 (X : Cx) (o : Expr) (m : Str) (apos : Pos) (e : Expr) (cpos : Pos) : Prop where
  base : attributeBase o m X.env (eval o X.env) = eval o X.env
  few : ((backTo cpos (starEach [e] X.env)).all (fun x => !x.1) && (backToKw cpos (keywordEach [] X.env)).all (fun x => x.1.isSome)
    && decide (([e] : List Expr).length + ([] : List Keyword).length + (if ([] : List Keyword).isEmpty then 0 else 1) < 30)) = true
  line : (apos.endLine == cpos.line) = true
  trees : backTo cpos (starEach [e] X.env) = [(false, eval e X.env)]
structure M2 (X : Cx) (o : Expr) (m : Str) (apos : Pos) (e f : Expr) (cpos : Pos) : Prop where
  base : attributeBase o m X.env (eval o X.env) = eval o X.env
  few : ((backTo cpos (starEach [e, f] X.env)).all (fun x => !x.1) && (backToKw cpos (keywordEach [] X.env)).all (fun x => x.1.isSome)
    && decide (([e, f] : List Expr).length + ([] : List Keyword).length + (if ([] : List Keyword).isEmpty then 0 else 1) < 30)) = true
  line : (apos.endLine == cpos.line) = true
  trees : backTo cpos (starEach [e, f] X.env) = [(false, eval e X.env), (false, eval f X.env)]
end L2
namespace Att
open PySem PySem.W PySem.Calls PyProof.Rows
theorem ints_of_wellAll {P : Params} {h : Heap} : ∀ (ns : List Int) (vs : List Value), WellAll P h vs (ns.map WData.int) → IntsAre vs ns := by
  intro ns
  induction ns with
  | nil =>
    intro vs w
    rw [List.map_nil] at w
    cases w
    exact .nil
  | cons n ns ih =>
    intro vs w
    rw [List.map_cons] at w
    cases w with
    | cons a b =>
      cases a
      exact .cons _ _ (ih _ b)
theorem script_of {l : OpenLaw} {n : Nat} (hn : l.most = some n) {P : Params} {h : Heap} {args : List WData} {vals : List Value}
    (hpre : l.row.toRowW.claim.pre args = true) (hwl : WellAll P h vals args) :
    ∃ a vs ns, vals = [Value.ref a] ∧ args = [WData.list (ns.map WData.int)] ∧ h.get? a = some { cls := .type "list", data := .seq vs.toArray } ∧ IntsAre vs ns ∧ ns.length ≤ n := by
  have hsh : WShape.hasAll [] args [.list .int] = true := (pre_splitW hpre).1
  have hc : l.pre.holds [] { args := args } = true := (pre_splitW hpre).2
  obtain ⟨d, r, rfl, h1, h2⟩ := hasAllW_cons hsh
  obtain rfl := hasAllW_nil h2
  obtain ⟨xs, rfl, h3⟩ := hasW_list h1
  obtain ⟨ns, rfl⟩ := items_int h3
  have hlen : ns.length ≤ n := by
    unfold OpenLaw.pre at hc
    have h4 : (WTm.not (.lt (.lit (.int (n : Int))) (.len (.arg 0)))).holds [] { args := [.list (ns.map .int)] } = true := by
      have h4 := (holds_andW hc).1
      rw [hn] at h4
      exact h4
    have h5 := condW_of h4 (w_not (w_lt w_lit (w_len_list (w_arg rfl))))
    rw [List.length_map] at h5
    refine Nat.le_of_not_lt fun q => ?_
    have q' : (n : Int) < ((ns.length : Nat) : Int) := by omega
    first
      | (rw [decide_eq_true q'] at h5; exact absurd h5 (by decide))
      | (simp at h5; omega)
  cases hwl with
  | cons w1 w2 =>
    cases w2
    cases w1 with
    | list ho hall => exact ⟨_, _, ns, rfl, rfl, ho, ints_of_wellAll ns _ hall, hlen⟩
theorem post_true (l : OpenLaw) (args : List WData) : l.row.toRowW.claim.post args (.bool true) args = true :=
  postW_of (r := l.row.toRowW) (X := (true == true))
    (show WShape.has [] (.bool true) .bool = true by first | rfl | decide | simp [WShape.has, WShape.arms, WShape.armsAll])
    (show (WTm.eq .res (.lit (.bool true))).value [] { args := args, res := some (.bool true), after := args } = some (.bool (true == true)) from w_eq_bool (w_res rfl) w_lit) rfl
theorem attach_call {l : OpenLaw} {n : Nat} {q : Program} {loose : List Str} {XP : (Str → Option Value) → Heap → Prop} {YP : World → Heap → Prop} {d : DefRec}
    (hn : l.most = some n) (hdf : d.params.defaults = [])
    (call : ∀ (w : World) (s₀ s₁ : Shared) (mg mb : Str → Option Value) (fa : Addr) (o : Obj) (pm cd doc : Value) (a : Addr) (vs : List Value) (ns : List Int),
      Ground q loose [] XP w s₀ mg mb s₁.heap → YP w s₁.heap →
      s₁.heap.get? fa = some o → o.data = .func (docDef d.name d.params d.body d.scope pm cd doc) → s₁.heap.CodeRec cd d.name → mg d.name = some (.ref fa) →
      s₁.heap.get? a = some { cls := .type "list", data := .seq vs.toArray } → IntsAre vs ns → ns.length ≤ n → s₁.gens = #[] →
      codeAny (model l.prog w) callerA (.call (.ref fa) ⟨[.ref a], []⟩) (fun r s' => r = .ok (.ret (.bool true)) ∧ OldK s₁.heap s'.heap ∧ s'.os = s₁.os ∧ AllBare s'.gens) s₁) :
    WalkO q loose XP YP l.row.toRowW d [] (fun f vs => PySem.call f vs) := by
  intro w s₀ s₁ mg mb G Y fa o pm cd doc dV kV ho hd hcd hD hmg hg args vals as hpre hlay hrd hwl hlo
  obtain rfl : dV = .none := Dflts.none hD hdf
  obtain rfl : kV = .none := Dflts.noKw hD
  obtain ⟨a, vs, ns, rfl, rfl, hobj, hints, hlen⟩ := script_of hn hpre hwl
  refine enter_call (codeAny_mono (call w s₀ s₁ mg mb fa o pm cd doc a vs ns G Y ho (fd_plain hd) hcd hmg hobj hints hlen hg) fun r s' hq => ?_)
  obtain ⟨rfl, h2, h3, h4⟩ := hq
  exact ⟨.inl ⟨.bool true, .bool true, [], rfl, fun _ => rfl, .bool true, post_true l _, fun _ => ⟨List.Pairwise.nil, fun _ hm => (nomatch hm)⟩⟩, h2, h3, h4⟩
end Att
namespace L2
open PySem PySem.Spec PyProof.Rows
theorem vals_ints : ∀ {vs : List Value} {ns : List Int}, IntsAre vs ns → Vals (ns.map V.int) vs
  | _, _, .nil => .nil
  | _, _, .cons n t h => .cons ⟨t, rfl⟩ (vals_ints h)
def Only (H : Hp) : Prop := ∀ b, H b = none ∨ ∃ o xs, H b = some (.frz o (.lst xs))
theorem law_call {P : Program} {w : World} {K : PySem.W.Frag} {mg mb : Str → Option Value} {CX : CXT} {k : Nat} {fa a : Addr} {fd : FuncData} {x : Str} {sp : Sp} {s₁ : Shared} {vs : List Value} {ns : List Int}
    (KX : K.In s₁.heap) (hns : s₁.heap.Ns mainGlobals mg) (hb : s₁.heap.Ns builtinsNs mb) (hbb : ∀ x : Str, x ≠ "__name__" → mb x = bootBuiltins x) (hlim : s₁.heap.NoLimit) (hbm : ∃ bm ob, mg "__builtins__" = some (.ref bm) ∧ bm ≠ builtinsNs ∧ s₁.heap.get? bm = some ob ∧ ob.cls = .type "module" ∧ ob.dict = some builtinsNs ∧ ob.data = .plain) (hg : s₁.gens = #[])
    (ha : s₁.heap.get? a = some { cls := .type "list", data := .seq vs.toArray }) (hi : IntsAre vs ns) (hl : ns.length ≤ sizeLine) (hr : Room k callerA)
    (F : ∀ base : Heap, K.In base → base.Ns mainGlobals mg → FnOk P w K mg base CX k fa fd [x] sp) (hbind : ∀ (s : Shared) (u : Value), BindsTo s fd ⟨[u], []⟩ [(x, u)])
    (hsp : ∀ H : Hp, Only H → SqL K H a (ns.map V.int) → sp [.ref a] H (fun v _ => v = .bl true) fun _ _ _ => False)
    (hCX : ∀ H e s', CX [] H s₁ (fun _ _ _ => False) e s' → False) :
    codeAny (model P w) callerA (.call (.ref fa) ⟨[.ref a], []⟩) (fun r s' => r = .ok (.ret (.bool true)) ∧ OldK s₁.heap s'.heap ∧ s'.os = s₁.os ∧ AllBare s'.gens) s₁ := by
  have rv := vals_ints hi
  have lenV := hi.length
  have core : ∀ H : Hp, Only H → SqL K H a (ns.map V.int) → HOk P w H s₁.heap → (∀ b, H b ≠ none → b = a) → (H a ≠ none → K.lookup a = none) →
      codeAny (model P w) callerA (.call (.ref fa) ⟨[.ref a], []⟩) (fun r s' => r = .ok (.ret (.bool true)) ∧ OldK s₁.heap s'.heap ∧ s'.os = s₁.os ∧ AllBare s'.gens) s₁ := by
    intro H hO hS hok hA hK
    have base_of : ∀ {b : Addr} {o : Obj}, s₁.heap.get? b = some o → H b = none → (hidT s₁.heap H).get? b = some o := fun e n => hidT_get e n
    have noA : ∀ {b : Addr} {o : Obj} {es : Array DictEntry} {ep : Nat}, s₁.heap.get? b = some o → o.data = .dict es ep → H b = none := fun {b o es ep} e d => by
      cases q : H b with
      | none => rfl
      | some u =>
        have e' : b = a := hA b (by rw [q]; simp)
        subst e'
        rw [ha] at e; cases e
        have d' : Data.seq vs.toArray _ = Data.dict es ep := d
        cases d'
    have nsK : ∀ {b : Addr} {m : Str → Option Value}, s₁.heap.Ns b m → (hidT s₁.heap H).Ns b m := fun {b m} ⟨o, es, ep, e, d, r⟩ => ⟨o, es, ep, base_of e (noA e d), d, r⟩
    have hKb : K.In (hidT s₁.heap H) := fun b o e => base_of (KX b o e) (by
      cases q : H b with
      | none => rfl
      | some u =>
        have e' : b = a := hA b (by rw [q]; simp)
        subst e'
        rw [hK (by rw [q]; simp)] at e; cases e)
    have hM : Mod K mg (hidT s₁.heap H) := ⟨hKb, nsK hns, ⟨mb, nsK hb, hbb⟩, let ⟨mc, h1, h2⟩ := hlim; ⟨mc, nsK h1, h2⟩, by
      obtain ⟨bm, ob, b1, b2, b3, b4, b5⟩ := hbm
      refine ⟨bm, ob, b1, b2, base_of b3 ?_, b4, b5⟩
      cases q : H bm with
      | none => rfl
      | some u =>
        have e' : bm = a := hA bm (by rw [q]; simp)
        subst e'
        rw [ha] at b3
        cases b3
        injection b4 with b4
        exact absurd b4 (by decide)⟩
    have e0 : Env0 P w K mg (hidT s₁.heap H) callerA [] s₁ H := ⟨rfl, hM, fun b o e => of_hidT e, Nat.le_of_eq (hidT_size _ _), trivial, fun b hb => absurd (show b ∈ ([] : List Addr) from hb) (by simp), hok, .of_eq hg⟩
    refine codeAny_mono ((F _ hKb (nsK hns)).run callerA [] s₁ H ⟨[.ref a], []⟩ [.ref a] [.ref a] _ _ hr e0 (hbind s₁ (.ref a)) (.cons rfl .nil) (hsp H hO hS)) fun r s' h => ?_
    cases r with
    | error e => exact (hCX H e s' h).elim
    | ok fl =>
      cases fl with
      | next => exact False.elim h
      | brk => exact False.elim h
      | cont => exact False.elim h
      | ret u =>
        obtain ⟨v, H', os, bare, un, hok', r', q⟩ := h
        have q' : v = .bl true := q
        subst q'
        obtain rfl : u = Value.bool true := r'
        refine ⟨rfl, OldK.of_keep fun b o e => ?_, os, bare⟩
        cases q : H b with
        | none => exact un.keep b o e q (by intro z; exact absurd (show b ∈ ([] : List Addr) from z) (by simp)) (by simp)
        | some u =>
          rcases hO b with z | ⟨ob, xs, z⟩
          · rw [q] at z; cases z
          · have z2 := un.frzs b ob _ z
            obtain ⟨e1, _⟩ := hok b _ z
            obtain ⟨e2, _⟩ := hok' b _ z2
            rw [e] at e1; cases e1
            exact e2
  cases hk : K.lookup a with
  | some o =>
    have e := KX a o hk
    rw [ha] at e
    cases e
    refine core (fun _ => none) (fun _ => .inl rfl) (.inr ⟨_, vs.toArray, _, hk, rfl, rfl, rfl, by rw [List.size_toArray, lenV]; exact hl, by simpa using rv⟩) (fun b u z => by have z' : (none : Option HO) = some u := z; cases z') (fun b z => absurd rfl z) fun z => absurd rfl z
  | none =>
    refine core (fun b => if b = a then some (.frz { cls := .type "list", data := .seq vs.toArray } (.lst (ns.map V.int))) else none) (fun b => ?_) (.inl (.inr ⟨{ cls := .type "list", data := .seq vs.toArray }, if_pos rfl⟩)) (fun b u z => ?_) (fun b z => ?_) fun _ => hk
    · by_cases hb : b = a
      · exact .inr ⟨_, _, if_pos hb⟩
      · exact .inl (if_neg hb)
    · by_cases hb : b = a
      · have z' := (if_pos hb).symm.trans z
        cases z'
        subst hb
        exact ⟨ha, by rw [List.length_map]; exact hl, vs, _, rv, ha⟩
      · have z' := (if_neg hb).symm.trans z
        cases z'
    · by_cases hb : b = a
      · exact hb
      · exact absurd (if_neg hb) z
abbrev KOf {K : PySem.W.Frag} {h : Heap} (_ : K.In h) : PySem.W.Frag := K
theorem walk_of {l : PySem.W.OpenLaw} {n k : Nat} {q : Program} {loose : List Str} {XP : (Str → Option Value) → Heap → Prop} {YP : World → Heap → Prop} {d : DefRec} {K : Params → PySem.W.Frag} {CX : World → CXT} {sp : World → Sp} {x : Str}
    (hn : l.most = some n) (hn2 : n ≤ sizeLine) (hdf : d.params.defaults = []) (hr : Room k callerA)
    (hY : ∀ (w : World) (h : Heap), YP w h → (K w.params).In h)
    (F : ∀ (w : World) (mg : Str → Option Value) (fa : Addr) (h : Heap), (K w.params).In h → h.Ns mainGlobals mg → mg d.name = some (.ref fa) →
      ∃ fd : FuncData, (∀ (s : Shared) (u : Value), BindsTo s fd ⟨[u], []⟩ [(x, u)]) ∧
        ∀ base : Heap, (K w.params).In base → base.Ns mainGlobals mg → FnOk l.prog w (K w.params) mg base (CX w) k fa fd [x] (sp w))
    (hsp : ∀ (w : World) (H : Hp) (a : Addr) (ns : List Int), ns.length ≤ n → Only H → SqL (K w.params) H a (ns.map V.int) → sp w [.ref a] H (fun v _ => v = .bl true) fun _ _ _ => False)
    (hCX : ∀ (w : World) (H : Hp) (s : Shared) (e : Value) (s' : Shared), CX w [] H s (fun _ _ _ => False) e s' → False) :
    PySem.W.WalkO q loose XP YP l.row.toRowW d [] (fun f vs => PySem.call f vs) := by
  refine Att.attach_call hn hdf fun w s₀ s₁ mg mb fa o pm cd doc a vs ns G Y ho hd hcd hmg hobj hints hlen hg => ?_
  have KX := hY w _ Y
  obtain ⟨fd, hb, hF⟩ := F w mg fa _ KX G.T.g hmg
  exact law_call KX G.T.g G.T.b G.T.builtins G.T.nolimit G.T.bmain hg hobj hints (Nat.le_trans hlen hn2) hr hF hb (fun H hO hS => hsp w H a ns hlen hO hS) fun H e s' => hCX w H s₁ e s'
def inClass (s : Stmt) (j : Nat) : Stmt := match s with
  | .ClassDef _ _ _ body _ _ _ _ _ _ _ => body.getD j (.Pass ⟨0, 0, 0, 0⟩)
  | _ => .Pass ⟨0, 0, 0, 0⟩
def defArgs (s : Stmt) : Arguments := match s with
  | .FunctionDef _ a _ _ _ _ _ _ _ _ => a
  | _ => { posonlyargs := [], args := [], vararg := none, kwonlyargs := [], kw_defaults := [], kwarg := none, defaults := [] }
def defBody (s : Stmt) : List Stmt := match s with
  | .FunctionDef _ _ b _ _ _ _ _ _ _ => b
  | _ => []
def defScope (s : Stmt) : Scope := match s with
  | .FunctionDef _ _ _ _ _ _ sc _ _ _ => sc
  | _ => { kind := .function, names := [], isGenerator := false, isCoroutine := false }
abbrev E0 : XK := fun _ _ _ => False
structure Fun (K : PySem.W.Frag) (x qual : Str) (st : Stmt) (f : Addr) (fd : FuncData) : Prop where
  ex : ∃ (oc : Value) (od : Option Addr) (kV doc pm : Value) (an : Option Addr) (cdv ct : Value) (osl : Array (Option Value)),
    fd = PySem.W.fnOf x qual (defArgs st) (defBody st) (defScope st) .none kV doc pm an cdv ct ∧ K.lookup f = some ⟨oc, od, .func fd, osl⟩ ∧ PySem.W.codeIn K cdv qual = true
  kp : PySem.W.keepIn K (.ref f) = true
section
variable {P : Program} {w : World} {K : PySem.W.Frag} {mg : Str → Option Value} {base : Heap}
theorem Fun.binds {x qual : Str} {st : Stmt} {f : Addr} {fd : FuncData} {ps : List Str} (F : Fun K x qual st f fd)
    (h : ∀ (kV doc pm : Value) (an : Option Addr) (cdv ct : Value) (us : List Value), us.length = ps.length → bindArgs (PySem.W.fnOf x qual (defArgs st) (defBody st) (defScope st) .none kV doc pm an cdv ct) ⟨us, []⟩ = pure (ps.zip us)) : Binds K fd ps [] := by
  obtain ⟨oc, od, kV, doc, pm, an, cdv, ct, osl, rfl, lk, hcd⟩ := F.ex
  exact .all (h kV doc pm an cdv ct)
theorem fun_mk {x qual : Str} {st : Stmt} {f : Addr} {oc : Value} {od an : Option Addr} {osl : Array (Option Value)} {kV doc pm cdv ct : Value} (l : K.lookup f = some ⟨oc, od, .func (PySem.W.fnOf x qual (defArgs st) (defBody st) (defScope st) .none kV doc pm an cdv ct), osl⟩)
    (c : PySem.W.codeIn K cdv qual = true) (k : PySem.W.keepIn K (.ref f) = true) : Fun K x qual st f (PySem.W.fnOf x qual (defArgs st) (defBody st) (defScope st) .none kV doc pm an cdv ct) := ⟨⟨oc, od, kV, doc, pm, an, cdv, ct, osl, rfl, l, c⟩, k⟩
end
section
variable {X : Cx}
theorem pv (i : Nat) {x : Str} {pos : Pos} (hN : X.N[i]? = some x := by rfl) (hv : Vis X.env.scope x := by first | exact Or.inl rfl | exact Or.inr (Or.inl rfl) | exact Or.inr (Or.inr rfl)) (hd : (x == ("__debug__" : Str)) = false := by decide)
    (hcd : (x == ("__classdict__" : Str)) = false := by decide) : PE X (.Name x pos) (tVar i) := pe_var hN hv hd hcd
end
theorem iteF {A B : Prop} (h : B) : if false = true then A else B := by
  rw [if_neg Bool.false_ne_true]
  exact h
theorem iteT {A B : Prop} (h : A) : if true = true then A else B := by
  rw [if_pos rfl]
  exact h
structure Pass (fs : List Addr) (n : Nat) (H : Hp) (h h' : Heap) : Prop where
  keep : ∀ b o, h.get? b = some o → b ∉ fs → (b < n ∨ H b ≠ none ∨ ∀ vs, o.data ≠ .fields vs) → h'.get? b = some o
  slot : ∀ b o, h.get? b = some o → b ∈ fs → ∃ sl, h'.get? b = some { o with slots := sl }
  there : ∀ b o, h.get? b = some o → ∃ o', h'.get? b = some o'
def Head (n : Nat) (H : Hp) (h : Heap) (a : Addr) (vs : Array Value) (fl : Value) : Prop :=
  (vs[1]? = some .none ∧ fl = .none) ∨ ∃ T oT ts, vs[1]? = some (.ref T) ∧ n ≤ T ∧ H T = none ∧ T ≠ a ∧ h.get? T = some oT ∧ oT.data = .fields ts ∧ ts[3]? = some fl
structure Err (n : Nat) (H : Hp) (h : Heap) (a : Addr) (C : Value) (dx : Option Addr) (fl : Value) : Prop where
  new : n ≤ a
  un : H a = none
  obj : ∃ oe vs, h.get? a = some oe ∧ oe.cls = C ∧ oe.dict = dx ∧ oe.data = .fields vs ∧ 1 < vs.size ∧ Head n H h a vs fl
section
variable {X : Cx} {pins : List (Addr × Obj)} {σ : St} {H : Hp} {s : Shared} {h' : Heap}
open Classical in
end
def CXE (P : Program) (w : World) : CXT := fun outer H s E e s' =>
  ∃ a C dx H', e = .ref a ∧ s'.os = s.os ∧ AllBare s'.gens ∧ Un (frs outer) [] H H' s.heap s'.heap ∧ HOk P w H' s'.heap ∧ Err s.heap.objs.size H' s'.heap a C dx .none ∧ E C dx H'
theorem passE0 {X : Cx} {P : Program} {w : World} : Passes (CXE P w) X E0 := fun _ _ _ _ _ _ _ h => by
  obtain ⟨_, _, _, _, _, _, _, _, _, _, q⟩ := h
  exact q.elim
section
variable {X : Cx} {E : XK}
structure Own (X : Cx) : Prop where
  stk : X.stack = X.env :: X.outer
  frm : X.env.frame = some X.env.locals
  pn : X.pn = []
end
open PySem.Builtin PySem.Builtin.ObjectAttr
structure ErrC (K : PySem.W.Frag) (C : Addr) (bm : List Value) : Prop where
  at_ : ∃ nm q N bs hdct sn sub ab col dd k0 k1 k2 k3 k5 newId, K.lookup C = some (excClassObj nm q C N bs bm hdct sn sub ab col dd k0 k1 k2 k3 k5 newId)
  base : bm.contains (.type "BaseException") = true
structure ErrM (K : PySem.W.Frag) (C f : Addr) (bm bmB : List Value) (B newId initId : String) : Prop where
  at_ : ∃ nm q N bs hdct sn sub ab col dd k0 k1 k2 k3 k5, K.lookup C = some (excClassObj nm q C N bs bm hdct sn sub ab col dd k0 k1 k2 k3 k5 newId)
  facts : ExcBaseFacts B newId initId bmB
  hasB : bm.contains (.type B) = true
  noA : bm.contains (.type "AttributeError") = false
  noN : bm.contains (.type "NameError") = false
  base : bm.contains (.type "BaseException") = true
  init : PySem.W.findIn K (.ref C) "__init__" = some (some (.ref f))
  fn : PySem.W.isFn K (.ref f) = true
  kp : PySem.W.keepIn K (.ref C) = true
structure ErrS (K : PySem.W.Frag) (C : Addr) (f : Str) (bm : List Value) : Prop where
  at_ : ∃ nm q N bs sn sub ab col dd k0 k1 k2 k3 k5 newId, K.lookup C = some (excClassObj nm q C N bs bm true sn sub ab col dd k0 k1 k2 k3 k5 newId)
  passes : ∀ x : Addr, refuseLoop (.ref x) "__setattr__" bm = pure ()
  obj : bm.contains (.type "object") = true
  set : PySem.W.findIn K (.ref C) "__setattr__" = some (some (.builtin "object.__setattr__"))
  none : PySem.W.findIn K (.ref C) f = some none
def Ext (H H' : Hp) : Prop := ∀ b o, H b = some o → H' b = some o
theorem Ext.rfl' {H : Hp} : Ext H H := fun _ _ h => h
theorem Ext.tr {H H1 H2 : Hp} (a : Ext H H1) (b : Ext H1 H2) : Ext H H2 := fun c o h => b c o (a c o h)
theorem ext_upd {H : Hp} {p : Addr} {o : HO} (n : H p = none) : Ext H (upd H p o) := fun b u h => by
  rw [upd_ne (ne_of_none h n)]; exact h
theorem Ext.free {H H' : Hp} (e : Ext H H') {l : Addr} (h : H' l = none) : H l = none := by
  cases q : H l with
  | none => rfl
  | some o => rw [e l o q] at h; cases h
theorem Ext.rd {H H' : Hp} {a : Addr} {u : HO} (e : Ext H H') (h : Rd H a u) : Rd H' a u := by
  rcases h with h | ⟨o, h⟩
  · exact .inl (e _ _ h)
  · exact .inr ⟨o, e _ _ h⟩
theorem Ext.seqL {K : PySem.W.Frag} {H H' : Hp} {a : Addr} {xs : List V} (e : Ext H H') (h : SqL K H a xs) : SqL K H' a xs := h.elim (fun h => .inl (e.rd h)) .inr
theorem Ext.seqT {K : PySem.W.Frag} {H H' : Hp} {a : Addr} {xs : List V} (e : Ext H H') (h : SqT K H a xs) : SqT K H' a xs := h.elim (fun h => .inl (e.rd h)) .inr
theorem up {H H' : Hp} {p : Addr} {o : HO} (e : Ext H H') (h : H p = some o) : H' p = some o := e _ _ h
def But (x : Addr) (H H' : Hp) : Prop := ∀ b o, b ≠ x → H b = some o → H' b = some o
theorem But.tr {x : Addr} {H H1 H2 : Hp} (a : But x H H1) (b : But x H1 H2) : But x H H2 := fun c o n h => b c o n (a c o n h)
theorem Ext.but {x : Addr} {H H1 H2 : Hp} (a : Ext H H1) (b : But x H1 H2) (n : H x = none) : Ext H H2 := fun c o h => b c o (ne_of_none h n) (a c o h)
theorem but_upd {H : Hp} {p : Addr} {o : HO} : But p H (upd H p o) := fun b u n h => by rw [upd_ne n]; exact h
inductive Kd where | non | bl | int | str | tup | lst | dct
  deriving DecidableEq
def Kd.ty : Kd → String
  | .non => "NoneType" | .bl => "bool" | .int => "int" | .str => "str" | .tup => "tuple" | .lst => "list" | .dct => "dict"
def HasK (H : Hp) : V → Kd → Prop
  | .non, k => k = .non
  | .bl _, k => k = .bl
  | .int _, k => k = .int
  | .str _, k => k = .str
  | .ref a, k => (∃ xs, H a = some (.tup xs) ∧ k = .tup) ∨ (∃ xs, H a = some (.lst xs) ∧ k = .lst) ∨ (∃ kvs, H a = some (.dK kvs) ∧ k = .dct)
  | _, _ => False
theorem HasK.t {H : Hp} {a : Addr} {xs : List V} (h : H a = some (.tup xs)) : HasK H (.ref a) .tup := .inl ⟨xs, h, rfl⟩
theorem HasK.l {H : Hp} {a : Addr} {xs : List V} (h : H a = some (.lst xs)) : HasK H (.ref a) .lst := .inr (.inl ⟨xs, h, rfl⟩)
theorem HasK.d {H : Hp} {a : Addr} {kvs : List (Key × V)} (h : H a = some (.dK kvs)) : HasK H (.ref a) .dct := .inr (.inr ⟨kvs, h, rfl⟩)
theorem HasK.tyOf {K : PySem.W.Frag} {H : Hp} {x : V} {k : Kd} (h : HasK H x k) : TyOf K H x (.type k.ty) := by
  cases x with
  | non => cases (show k = .non from h); exact .non
  | bl b => cases (show k = .bl from h); exact .bl b
  | int b => cases (show k = .int from h); exact .int b
  | str b => cases (show k = .str from h); exact .str b
  | ref a =>
    rcases h with ⟨xs, h, rfl⟩ | ⟨xs, h, rfl⟩ | ⟨xs, h, rfl⟩
    · exact .tup h
    · exact .lst h
    · exact .dK h
  | _ => exact (show False from h).elim
inductive D where
  | non | bl (b : Bool) | int (i : Int) | str (x : Str) | tup (l : List D) | lst (l : List D) | dct
def D.kd : D → Kd
  | .non => .non | .bl _ => .bl | .int _ => .int | .str _ => .str | .tup _ => .tup | .lst _ => .lst | .dct => .dct
mutual
def Rep (H : Hp) : D → V → Prop
  | .non, v => v = .non
  | .bl b, v => v = .bl b
  | .int i, v => v = .int i
  | .str x, v => v = .str x
  | .tup l, v => ∃ p xs, v = .ref p ∧ H p = some (.tup xs) ∧ RepL H l xs
  | .lst l, v => ∃ p xs, v = .ref p ∧ H p = some (.lst xs) ∧ RepL H l xs
  | .dct, v => ∃ p kvs, v = .ref p ∧ H p = some (.dK kvs)
def RepL (H : Hp) : List D → List V → Prop
  | [], xs => xs = []
  | d :: r, xs => ∃ x t, xs = x :: t ∧ Rep H d x ∧ RepL H r t
end
def isData : HO → Bool
  | .tup _ => true | .lst _ => true | .dK _ => true | _ => false
def Kp (H H' : Hp) : Prop := ∀ b o, H b = some o → isData o = true → H' b = some o
theorem Ext.kp {H H' : Hp} (e : Ext H H') : Kp H H' := fun b o h _ => e b o h
mutual
theorem Rep.keep' {H H' : Hp} (e : Kp H H') : ∀ (d : D) {v : V}, Rep H d v → Rep H' d v
  | .non, _, h => by unfold Rep at h ⊢; exact h
  | .bl _, _, h => by unfold Rep at h ⊢; exact h
  | .int _, _, h => by unfold Rep at h ⊢; exact h
  | .str _, _, h => by unfold Rep at h ⊢; exact h
  | .tup l, _, h => by unfold Rep at h ⊢; obtain ⟨p, xs, h1, h2, h3⟩ := h; exact ⟨p, xs, h1, e _ _ h2 rfl, RepL.keep' e l h3⟩
  | .lst l, _, h => by unfold Rep at h ⊢; obtain ⟨p, xs, h1, h2, h3⟩ := h; exact ⟨p, xs, h1, e _ _ h2 rfl, RepL.keep' e l h3⟩
  | .dct, _, h => by unfold Rep at h ⊢; obtain ⟨p, xs, h1, h2⟩ := h; exact ⟨p, xs, h1, e _ _ h2 rfl⟩
theorem RepL.keep' {H H' : Hp} (e : Kp H H') : ∀ (l : List D) {xs : List V}, RepL H l xs → RepL H' l xs
  | [], _, h => by unfold RepL at h ⊢; exact h
  | d :: r, _, h => by unfold RepL at h ⊢; obtain ⟨x, t, h1, h2, h3⟩ := h; exact ⟨x, t, h1, Rep.keep' e d h2, RepL.keep' e r h3⟩
end
theorem Rep.keep {H H' : Hp} {d : D} {v : V} (h : Rep H d v) (e : Kp H H') : Rep H' d v := Rep.keep' e d h
theorem RepL.keep {H H' : Hp} {d : List D} {v : List V} (h : RepL H d v) (e : Kp H H') : RepL H' d v := RepL.keep' e d h
theorem Rep.mono {H H' : Hp} {d : D} {v : V} (h : Rep H d v) (e : Ext H H') : Rep H' d v := h.keep e.kp
theorem RepL.mono {H H' : Hp} {d : List D} {v : List V} (h : RepL H d v) (e : Ext H H') : RepL H' d v := h.keep e.kp
theorem RepL.length {H : Hp} : ∀ {l : List D} {xs : List V}, RepL H l xs → l.length = xs.length
  | [], _, h => by unfold RepL at h; rw [h]; rfl
  | d :: r, _, h => by unfold RepL at h; obtain ⟨x, t, rfl, _, h3⟩ := h; rw [List.length_cons, List.length_cons, RepL.length h3]
theorem RepL.get {H : Hp} : ∀ {l : List D} {xs : List V} {i : Nat} {x : V}, RepL H l xs → xs[i]? = some x → ∃ d, l[i]? = some d ∧ Rep H d x
  | [], _, i, x, h, e => by unfold RepL at h; subst h; simp at e
  | d :: r, _, 0, x, h, e => by unfold RepL at h; obtain ⟨y, t, rfl, h2, _⟩ := h; simp at e; subst e; exact ⟨d, rfl, h2⟩
  | d :: r, _, i + 1, x, h, e => by unfold RepL at h; obtain ⟨y, t, rfl, _, h3⟩ := h; obtain ⟨z, z1, z2⟩ := RepL.get (i := i) h3 (by simpa using e); exact ⟨z, by simpa using z1, z2⟩
theorem RepL.nil {H : Hp} : RepL H [] [] := by unfold RepL; rfl
theorem RepL.cons {H : Hp} {d : D} {x : V} {l : List D} {xs : List V} (h : Rep H d x) (t : RepL H l xs) : RepL H (d :: l) (x :: xs) := by unfold RepL; exact ⟨x, xs, rfl, h, t⟩
theorem Rep.intI {H : Hp} {i : Int} : Rep H (.int i) (.int i) := by unfold Rep; rfl
theorem Rep.nonI {H : Hp} : Rep H .non .non := by unfold Rep; rfl
theorem Rep.strI {H : Hp} {b : Str} : Rep H (.str b) (.str b) := by unfold Rep; rfl
theorem Rep.tupI {H : Hp} {p : Addr} {xs : List V} {l : List D} (h : H p = some (.tup xs)) (r : RepL H l xs) : Rep H (.tup l) (.ref p) := by unfold Rep; exact ⟨p, xs, rfl, h, r⟩
theorem Rep.lstI {H : Hp} {p : Addr} {xs : List V} {l : List D} (h : H p = some (.lst xs)) (r : RepL H l xs) : Rep H (.lst l) (.ref p) := by unfold Rep; exact ⟨p, xs, rfl, h, r⟩
theorem RepL.ints {H : Hp} : ∀ ns : List Int, RepL H (ns.map D.int) (ns.map V.int)
  | [] => .nil
  | _ :: r => .cons .intI (RepL.ints r)
theorem Rep.kd {H : Hp} {d : D} {v : V} (h : Rep H d v) : HasK H v d.kd := by
  cases d with
  | tup l => unfold Rep at h; obtain ⟨p, xs, rfl, h, _⟩ := h; exact .t h
  | lst l => unfold Rep at h; obtain ⟨p, xs, rfl, h, _⟩ := h; exact .l h
  | dct => unfold Rep at h; obtain ⟨p, xs, rfl, h⟩ := h; exact .d h
  | _ => unfold Rep at h; subst h; exact rfl
mutual
def D.fine : D → Bool
  | .tup l => D.fineL l
  | .lst l => D.fineL l
  | .dct => false
  | _ => true
def D.fineL : List D → Bool
  | [] => true
  | d :: r => d.fine && D.fineL r
def D.depth : D → Nat
  | .tup l => D.depthL l + 1
  | .lst l => D.depthL l + 1
  | _ => 0
def D.depthL : List D → Nat
  | [] => 0
  | d :: r => max d.depth (D.depthL r)
end
theorem fineL_of : ∀ {l : List D} {i : Nat} {d : D}, D.fineL l = true → l[i]? = some d → d.fine = true
  | [], _, _, _, e => by simp at e
  | x :: r, 0, d, h, e => by simp at e; subst e; unfold D.fineL at h; exact (Bool.and_eq_true_iff.mp h).1
  | x :: r, i + 1, d, h, e => by unfold D.fineL at h; exact fineL_of (Bool.and_eq_true_iff.mp h).2 (by simpa using e)
theorem depthL_le : ∀ {l : List D} {n i : Nat} {d : D}, D.depthL l ≤ n → l[i]? = some d → d.depth ≤ n
  | [], _, _, _, _, e => by simp at e
  | x :: r, n, 0, d, h, e => by simp at e; subst e; unfold D.depthL at h; omega
  | x :: r, n, i + 1, d, h, e => by unfold D.depthL at h; exact depthL_le (l := r) (by omega) (by simpa using e)
theorem depthL_ints (ns : List Int) : D.depthL (ns.map D.int) = 0 := by
  induction ns with
  | nil => rfl
  | cons n r ih => show max (D.depth (.int n)) (D.depthL (r.map D.int)) = 0; rw [ih]; rfl
abbrev CXU (P : Program) (w : World) : CXT := CXE P w
theorem passU {X : Cx} {P : Program} {w : World} : Passes (CXU P w) X E0 := passE0
theorem noneU {P : Program} : ∀ (w : World) (H : Hp) (s : Shared) (e : Value) (s' : Shared), CXU P w [] H s (fun _ _ _ => False) e s' → False := fun _ _ _ _ _ h => by
  obtain ⟨_, _, _, _, _, _, _, _, _, _, q⟩ := h
  exact q
theorem FnOk.no {P : Program} {w : World} {K : PySem.W.Frag} {mg : Str → Option Value} {base : Heap} {CX : CXT} {k : Nat} {f : Addr} {fd : FuncData} {ps : List Str} : FnOk P w K mg base CX k f fd ps (fun _ _ _ _ => False) :=
  ⟨fun _ _ _ _ h => h.elim, fun _ _ _ _ _ _ _ _ _ _ _ _ _ h => h.elim⟩
section
variable {P : Program} {w : World} {K : PySem.W.Frag} {mg : Str → Option Value} {base : Heap}
theorem Fun.okU {x qual : Str} {st : Stmt} {f : Addr} {fd : FuncData} {N ps : List Str} {k : Nat} {sp : Sp} (F : Fun K x qual st f fd) (S : FnScope N ps (defScope st)) (len : ∀ vs H Q E, sp vs H Q E → vs.length = ps.length)
    (hbody : ∀ (cdv : Value) (A : Around) (outer : List Env) (s : Shared) (H : Hp) (vs : List V) (Q : VK) (E : XK), Room k (A.deeper (envOfC qual (defScope st) s.heap.objs.size f cdv)) → sp vs H Q E →
      ∃ t, PSs (cxOf (CXU P w) P w K mg base N qual (defScope st) f cdv A outer s H E).nox (defBody st) t ∧ t { nx := fun _ H' => Q .non H', rt := Q } (start N vs) H) : FnOk P w K mg base (CXU P w) (k + 1) f fd ps sp := by
  obtain ⟨oc, od, kV, doc, pm, an, cdv, ct, osl, rfl, lk, hcd⟩ := F.ex
  refine fn_of lk hcd S len fun A outer s H vs Q E hr hsp => ?_
  obtain ⟨t, h, q⟩ := hbody cdv A outer s H vs Q E hr hsp
  exact ⟨t, h.nox, q⟩
end
abbrev ib : Int → Nat := Builtin.Int.intBits
theorem bits_of_lay {ns : List Int} (h : PySem.W.WData.layableAll [.list (ns.map .int)] = true) : ∀ z ∈ ns, ib z ≤ 1048576 := fun z hz => by
  have h1 := PySem.W.layableW_arg h _ (List.mem_singleton.mpr rfl)
  have h2 := PySem.W.layableW_item h1 (.int z) (List.mem_map.mpr ⟨z, hz, rfl⟩)
  have h3 := (PySem.W.layableW_iff.mp h2).2.2
  simpa [PySem.W.WData.weight, ib, Builtin.Int.intBits] using h3
end L2
namespace L2
open PySem PySem.W PySem.Calls PyProof.Rows
theorem attach_callB {l : OpenLaw} {n : Nat} {q : Program} {loose : List Str} {XP : (Str → Option Value) → Heap → Prop} {YP : World → Heap → Prop} {d : DefRec}
    (hn : l.most = some n) (hdf : d.params.defaults = [])
    (call : ∀ (w : World) (s₀ s₁ : Shared) (mg mb : Str → Option Value) (fa : Addr) (o : Obj) (pm cd doc : Value) (a : Addr) (vs : List Value) (ns : List Int),
      Ground q loose [] XP w s₀ mg mb s₁.heap → YP w s₁.heap →
      s₁.heap.get? fa = some o → o.data = .func (docDef d.name d.params d.body d.scope pm cd doc) → s₁.heap.CodeRec cd d.name → mg d.name = some (.ref fa) →
      s₁.heap.get? a = some { cls := .type "list", data := .seq vs.toArray } → IntsAre vs ns → ns.length ≤ n → (∀ z ∈ ns, ib z ≤ 1048576) → s₁.gens = #[] →
      codeAny (model l.prog w) callerA (.call (.ref fa) ⟨[.ref a], []⟩) (fun r s' => r = .ok (.ret (.bool true)) ∧ OldK s₁.heap s'.heap ∧ s'.os = s₁.os ∧ AllBare s'.gens) s₁) :
    WalkO q loose XP YP l.row.toRowW d [] (fun f vs => PySem.call f vs) := by
  intro w s₀ s₁ mg mb G Y fa o pm cd doc dV kV ho hd hcd hD hmg hg args vals as hpre hlay hrd hwl hlo
  obtain rfl : dV = .none := Dflts.none hD hdf
  obtain rfl : kV = .none := Dflts.noKw hD
  obtain ⟨a, vs, ns, rfl, rfl, hobj, hints, hlen⟩ := Att.script_of hn hpre hwl
  refine enter_call (codeAny_mono (call w s₀ s₁ mg mb fa o pm cd doc a vs ns G Y ho (fd_plain hd) hcd hmg hobj hints hlen (bits_of_lay hlay) hg) fun r s' hq => ?_)
  obtain ⟨rfl, h2, h3, h4⟩ := hq
  exact ⟨.inl ⟨.bool true, .bool true, [], rfl, fun _ => rfl, .bool true, Att.post_true l _, fun _ => ⟨List.Pairwise.nil, fun _ hm => (nomatch hm)⟩⟩, h2, h3, h4⟩
theorem walk_ofB {l : PySem.W.OpenLaw} {n k : Nat} {q : Program} {loose : List Str} {XP : (Str → Option Value) → Heap → Prop} {YP : World → Heap → Prop} {d : DefRec} {K : Params → PySem.W.Frag} {CX : World → CXT} {sp : World → Sp} {x : Str}
    (hn : l.most = some n) (hn2 : n ≤ sizeLine) (hdf : d.params.defaults = []) (hr : Room k callerA)
    (hY : ∀ (w : World) (h : Heap), YP w h → (K w.params).In h)
    (F : ∀ (w : World) (mg : Str → Option Value) (fa : Addr) (h : Heap), (K w.params).In h → h.Ns mainGlobals mg → mg d.name = some (.ref fa) →
      ∃ fd : FuncData, (∀ (s : Shared) (u : Value), BindsTo s fd ⟨[u], []⟩ [(x, u)]) ∧
        ∀ base : Heap, (K w.params).In base → base.Ns mainGlobals mg → FnOk l.prog w (K w.params) mg base (CX w) k fa fd [x] (sp w))
    (hsp : ∀ (w : World) (H : Hp) (a : Addr) (ns : List Int), ns.length ≤ n → (∀ z ∈ ns, ib z ≤ 1048576) → Only H → SqL (K w.params) H a (ns.map V.int) → sp w [.ref a] H (fun v _ => v = .bl true) fun _ _ _ => False)
    (hCX : ∀ (w : World) (H : Hp) (s : Shared) (e : Value) (s' : Shared), CX w [] H s (fun _ _ _ => False) e s' → False) :
    PySem.W.WalkO q loose XP YP l.row.toRowW d [] (fun f vs => PySem.call f vs) := by
  refine attach_callB hn hdf fun w s₀ s₁ mg mb fa o pm cd doc a vs ns G Y ho hd hcd hmg hobj hints hlen hbit hg => ?_
  have KX := hY w _ Y
  obtain ⟨fd, hb, hF⟩ := F w mg fa _ KX G.T.g hmg
  exact law_call KX G.T.g G.T.b G.T.builtins G.T.nolimit G.T.bmain hg hobj hints (Nat.le_trans hlen hn2) hr hF hb (fun H hO hS => hsp w H a ns hlen hbit hO hS) fun H e s' => hCX w H s₁ e s'
section
variable {X : Cx}
def CMulB (i j : Int) : Prop := (-18446744073709551616 < i ∧ i < 18446744073709551616) ∨ (-18446744073709551616 < j ∧ j < 18446744073709551616) ∨ IntMulOk i j
theorem CMulB.ok {i j : Int} (h : CMulB i j) : IntMulOk i j := by
  rcases h with ⟨h1, h2⟩ | ⟨h1, h2⟩ | h
  · exact .of_left (intBits_le_64 (by omega) (by omega))
  · exact .of_right (intBits_le_64 (by omega) (by omega))
  · exact h
theorem op_mulB : OpR X (binaryOp .Mult) (rI CMulB fun i j => .int (i * j)) := opI fun _ _ _ _ _ _ _ hc q => mul_int q hc.ok
def CDivB (i j : Int) : Prop := 0 < j ∧ j < 1000000000000000000000000000000000000000000000000000000000000
theorem CDivB.no {i j : Int} (h : CDivB i j) : Builtin.divisionGoesByPylong i j = false := by
  refine PyProof.noPylong_of_log2 ?_
  have h1 := h.1
  have h2 := h.2
  have h0 : j.natAbs ≠ 0 := by omega
  refine (Nat.log2_lt h0).mpr ?_
  have e : (1000000000000000000000000000000000000000000000000000000000000 : Nat) < 2 ^ 9000 := by decide +kernel
  omega
theorem op_fdivB : OpR X (binaryOp .FloorDiv) (rI CDivB fun i j => .int (i / j)) := opI fun i j _ _ _ _ _ hc q => by
  have h1 := hc.1
  exact floordiv_int (by omega) (by rw [Int.fdiv_eq_ediv_of_nonneg i (by omega)]; exact q) (.inl hc.no)
def rIsin (K : PySem.W.Frag) : List V → Hp → VK → Prop := fun xs H Q => ∃ x t b, ((∃ n, xs = [x, .ty n] ∧ PySem.W.kitOne K t (.type n) = some b) ∨ ∃ C, xs = [x, .ref C] ∧ PySem.W.kitOne K t (.ref C) = some b) ∧ TyOf K H x t ∧ Q (.bl b) H
theorem cIsin : CallR X (.builtin "isinstance") (rIsin X.K) := by
  intro pins s σ H xs us Q I r h
  obtain ⟨x, t, b, hx, ty, q⟩ := h
  rcases hx with ⟨n, rfl, e⟩ | ⟨n, rfl, e⟩
  · obtain ⟨u, w', rfl, ru, rw'⟩ := vals2 r
    obtain rfl : w' = Value.type n := rw'
    exact isinst_ok I ru ty e fun tk => ⟨.bl b, H, I.tok _, rfl, q⟩
  · obtain ⟨u, w', rfl, ru, rw'⟩ := vals2 r
    obtain rfl : w' = Value.ref n := rw'
    exact isinst_ok I ru ty e fun tk => ⟨.bl b, H, I.tok _, rfl, q⟩
theorem kit_int {K : PySem.W.Frag} (k : Kd) : PySem.W.kitOne K (.type k.ty) (.type "int") = some (k == .int || k == .bl) := by cases k <;> rfl
theorem kit_bool {K : PySem.W.Frag} (k : Kd) : PySem.W.kitOne K (.type k.ty) (.type "bool") = some (k == .bl) := by cases k <;> rfl
theorem kit_str {K : PySem.W.Frag} (k : Kd) : PySem.W.kitOne K (.type k.ty) (.type "str") = some (k == .str) := by cases k <;> rfl
theorem kit_tuple {K : PySem.W.Frag} (k : Kd) : PySem.W.kitOne K (.type k.ty) (.type "tuple") = some (k == .tup) := by cases k <;> rfl
theorem kit_list {K : PySem.W.Frag} (k : Kd) : PySem.W.kitOne K (.type k.ty) (.type "list") = some (k == .lst) := by cases k <;> rfl
def rSum (K : PySem.W.Frag) : List V → Hp → VK → Prop := fun xs H Q => ∃ (p : Addr) (ns : List Int), xs = [.ref p] ∧ SqL K H p (ns.map V.int) ∧ Q (.int ns.sum) H
theorem cSum (hc : X.calm = true) : CallR X (.builtin "sum") (rSum X.K) := by
  intro pins s σ H xs us Q I r h
  obtain ⟨p, ns, rfl, hq, q⟩ := h
  obtain ⟨u, rfl, rx⟩ := vals1 r
  cases rx
  obtain ⟨its, r', pl, hz⟩ := I.list hq
  have hi : IntsAre its ns := intsAre_of r'
  have hall : AllInts its.toArray := hi.allInts
  obtain ⟨ys, e⟩ := hall.items
  refine sum_intListG (I.ok.hd hc) (xs := ys) (by rw [← e]; exact pl.isList) fun h' tk t' hk => ⟨.int ns.sum, H, I.kept hk, ⟨t', ?_⟩, q⟩
  have e2 : numsOf its = ns := hi.numsOf
  have e3 := nums_intItems (xs := ys)
  rw [← e] at e3
  rw [preSum_eq, List.take_of_length_le (by simp), ← e3]
  exact congrArg (fun z => Value.int z t') (congrArg List.sum e2)
def rMax2 : List V → Hp → VK → Prop := fun xs H Q => ∃ i j, xs = [.int i, .int j] ∧ Q (.int (max i j)) H
theorem cMax2 (hc : X.calm = true) : CallR X (.builtin "max") rMax2 := by
  intro pins s σ H xs us Q I r h
  obtain ⟨i, j, rfl, q⟩ := h
  refine call_max2 hc pins s σ H _ us Q I r ⟨i, j, rfl, ?_⟩
  have e : (if j > i then j else i) = max i j := by split <;> omega
  rw [e]; exact q
def rMin2 : List V → Hp → VK → Prop := fun xs H Q => ∃ i j, xs = [.int i, .int j] ∧ Q (.int (min i j)) H
theorem cMin2 (hc : X.calm = true) : CallR X (.builtin "min") rMin2 := by
  intro pins s σ H xs us Q I r h
  obtain ⟨i, j, rfl, q⟩ := h
  refine call_min2 hc pins s σ H _ us Q I r ⟨i, j, rfl, ?_⟩
  have e : (if j < i then j else i) = min i j := by split <;> omega
  rw [e]; exact q
def rAbs : List V → Hp → VK → Prop := fun xs H Q => ∃ i : Int, xs = [.int i] ∧ Q (.int (i.natAbs : Int)) H
theorem cAbs : CallR X (.builtin "abs") rAbs := by
  intro pins s σ H xs us Q I r h
  obtain ⟨i, rfl, q⟩ := h
  refine call_abs pins s σ H _ us Q I r ⟨i, rfl, ?_⟩
  have e : (if i < 0 then -i else i) = (i.natAbs : Int) := by split <;> omega
  rw [e]; exact q
def rInt1 : List V → Hp → VK → Prop := fun xs H Q => (∃ i, xs = [.int i] ∧ Q (.int i) H) ∨ ∃ k, xs = [.bl k] ∧ Q (.int (if k then 1 else 0)) H
theorem cInt1 : CallR X (.type "int") rInt1 := call_int1
def rLen (K : PySem.W.Frag) : List V → Hp → VK → Prop := fun xs H Q => ∃ x n, xs = [x] ∧ LenV K x H n ∧ Q (.int n) H
theorem cLen : CallR X (.builtin "len") (rLen X.K) := call_len
def rList (K : PySem.W.Frag) : List V → Hp → VK → Prop := fun xs H Q => ∃ p ys, xs = [.ref p] ∧ (SqL K H p ys ∨ SqT K H p ys) ∧ ∀ l, H l = none → Q (.ref l) (upd H l (.lst ys))
theorem cList : CallR X (.type "list") (rList X.K) := call_list_of
def rTuple (K : PySem.W.Frag) : List V → Hp → VK → Prop := fun xs H Q => ∃ p ys, xs = [.ref p] ∧ ((SqL K H p ys ∧ ∀ l, H l = none → Q (.ref l) (upd H l (.tup ys))) ∨ (SqT K H p ys ∧ Q (.ref p) H))
theorem cTuple : CallR X (.type "tuple") (rTuple X.K) := call_tuple_of
def rInU (K : PySem.W.Frag) (neg : Bool) : R2 := rIn K neg
theorem oIn : OpR X (compareOp .In) (rInU X.K false) := op_in_seq
theorem oNotIn : OpR X (compareOp .NotIn) (rInU X.K true) := op_notIn_seq
def rIsNo : R2 := fun x y H Q => y = .non ∧ Q (.bl (decide (x = .non))) H
theorem oIsN : OpR X (compareOp .Is) rIsNo := op_isN
theorem oIx : IxR X (rIx X.K) := ix_seq
def rSlU (K : PySem.W.Frag) : V → Option Int → Option Int → Hp → VK → Prop := fun x lo hi H Q => rSlT K x lo hi H Q ∨ rSlL K x lo hi H Q
theorem oSl : SlR X (rSlU X.K) := sl_tup.or sl_list
def tTru (K : PySem.W.Frag) (ta : TE) : TT := fun σ H Q => ta σ H fun x H' => ∃ k, TruV K x H' k ∧ Q k H'
theorem ptT {a : Expr} {ta : TE} (ha : PE X a ta) (he : ∀ whole, isTrue a X.env whole = (do let v ← whole; standAt a.pos; holding [v] (truthy v))) : PT X a (tTru X.K ta) := pt_truth ha he
structure CMeth (K : PySem.W.Frag) (C : Addr) (m : Str) (f : Addr) : Prop where
  ga : PySem.W.specialIn K (.ref C) "__getattribute__" = some (some (.builtin "type.__getattribute__"))
  rd : PySem.W.readsIn K C (.type "type") = true
  at_ : PySem.W.findCls K (.ref C) (.type "type") m = some (.val (.ref f))
  kp : PySem.W.keepIn K (.ref f) = true
end
section
variable {X : Cx} {pins : List (Addr × Obj)} {σ : St} {H : Hp} {s : Shared} {h' : Heap}
theorem Inv.turnLaid {t' : Nat} {ch : List Addr} {a : Addr} {o : HO} (I : Inv X pins σ H s) (k : ∀ b u, b ∉ ch → s.heap.get? b = some u → h'.get? b = some u) (hf : ∀ b ∈ ch, FpOk X pins H b)
    (hp : s.heap.objs.size ≤ a) (new : ObjOk X.prog X.w (upd H a o) h' a o) : Inv X pins σ (upd H a o) { s with heap := h', toks := t' } := by
  have hn : H a = none := I.hok.fresh hp
  have nit : ∀ b u, H b = some u → b ∉ ch := fun b u e z => by rw [(hf b z).1] at e; cases e
  have old : ∀ b u, H b = some u → upd H a o b = some u := fun b u e => by rw [upd_ne (ne_of_none e hn)]; exact e
  refine I.step (g' := s.gens) (d' := s.drawn) (ch := ch) (fun b hb => ?_) (fun b u _ _ hc e _ => k b u hc e) (fun b u _ _ hc e _ => ⟨u.slots, k b u hc e⟩) (fun b u _ e n => ?_)
    (fun b u hc e => ⟨u, k b u hc e⟩) (fun b xs e => old _ _ e) (fun b _ _ e => old _ _ e) (fun b ps e => ⟨#[], by rw [old _ _ e]; simp⟩) (fun m hm => ?_) (fun b u e => ?_) I.bare
  · obtain ⟨_, f1, _, f3, f4, f5⟩ := hf b hb
    exact ⟨f3, f1, f4, f5⟩
  · rw [upd_ne (fun z => by subst z; exact absurd (Heap.lt_size e) (Nat.not_lt.mpr hp))]; exact n
  · obtain ⟨ol, es, ep, ho, r⟩ := hm
    exact ⟨ol, es, ep, k _ ol (fun z => (hf _ z).2.1 rfl) ho, r⟩
  · by_cases hb : b = a
    · subst hb; rw [upd_same] at e; cases e; exact new
    · rw [upd_ne hb] at e
      refine (I.hok b u e).stay (fun c v hc q => k c v ?_ q) (fun c q => old _ _ q) fun c xs q => old _ _ q
      rcases hc with z | z
      · rw [z]; exact nit b u e
      · exact nit c _ z
theorem Inv.turns {t' : Nat} {ch : List Addr} (I : Inv X pins σ H s) (k : ∀ b u, b ∉ ch → s.heap.get? b = some u → h'.get? b = some u) (hf : ∀ b ∈ ch, FpOk X pins H b) : Inv X pins σ H { s with heap := h', toks := t' } := by
  have nit : ∀ b u, H b = some u → b ∉ ch := fun b u e z => by rw [(hf b z).1] at e; cases e
  refine I.step (g' := s.gens) (d' := s.drawn) (ch := ch) (fun b hb => ?_) (fun b u _ _ hc e _ => k b u hc e) (fun b u _ _ hc e _ => ⟨u.slots, k b u hc e⟩) (fun b u _ e n => n)
    (fun b u hc e => ⟨u, k b u hc e⟩) (fun b xs e => e) (fun b _ _ e => e) (fun b ps e => ⟨#[], by rw [e]; simp⟩) (fun m hm => ?_) (fun b u e => ?_) I.bare
  · obtain ⟨_, f1, _, f3, f4, f5⟩ := hf b hb
    exact ⟨f3, f1, f4, f5⟩
  · obtain ⟨ol, es, ep, ho, r⟩ := hm
    exact ⟨ol, es, ep, k _ ol (fun z => (hf _ z).2.1 rfl) ho, r⟩
  · refine (I.hok b u e).stay (fun c v hc q => k c v ?_ q) (fun c q => q) fun c xs q => q
    rcases hc with z | z
    · rw [z]; exact nit b u e
    · exact nit c _ z
end
section
variable {K : PySem.W.Frag} {σ : St} {H : Hp} {Q : VK} {D : Ends}
theorem r_var {i : Nat} {v : V} (h : σ[i]? = some (some v)) (q : Q v H) : tVar i σ H Q := ⟨v, h, q⟩
theorem r_c {v : V} (q : Q v H) : tC v σ H Q := q
theorem r_op {r : R2} {ta tb : TE} (q : ta σ H fun x H1 => tb σ H1 fun y H2 => r x y H2 Q) : tOp r ta tb σ H Q := q
theorem r_seq {t u : TS} (q : t { D with nx := u D } σ H) : tSeq t u D σ H := q
theorem r_asg {te : TE} {g : TG} (q : te σ H fun x H1 => g x σ H1 D.nx) : tAsg te g D σ H := q
theorem r_gname {i : Nat} {v : V} {R : St → Hp → Prop} (q : R (σ.set i (some v)) H) : gName i v σ H R := q
theorem r_if {c : TT} {t u : TS} (q : c σ H fun b H1 => if b = true then t D σ H1 else u D σ H1) : tIfS c t u D σ H := q
theorem r_test {t : TE} {R : Bool → Hp → Prop} (q : t σ H fun x H' => ∃ k, x = .bl k ∧ R k H') : tTest t σ H R := q
theorem r_bl {b : Bool} {R : Bool → Prop} (q : R b) : ∃ k, V.bl b = .bl k ∧ R k := ⟨b, rfl, q⟩
theorem r_I0 {g : Int → Int → V} {i j : Int} (q : Q (g i j) H) : rI0 g (.int i) (.int j) H Q := ⟨i, j, rfl, rfl, q⟩
theorem r_I {C : Int → Int → Prop} {g : Int → Int → V} {i j : Int} (c : C i j) (q : Q (g i j) H) : rI C g (.int i) (.int j) H Q := ⟨i, j, rfl, rfl, c, q⟩
theorem pow_ok {i : Int} {j n : Nat} {v : Int} (hi : i.natAbs < 18446744073709551616) (hj : j ≤ 1000) (e : i ^ j = v) (q : Q (.int v) H) : rI CPow (fun i j => .int (i ^ j.toNat)) (.int i) (.int (j : Int)) H Q :=
  ⟨i, j, rfl, rfl, ⟨by omega, by omega, Nat.lt_of_lt_of_le hi (by decide)⟩, by show Q (.int (i ^ (j : Int).toNat)) H; rw [Int.toNat_natCast, e]; exact q⟩
theorem r_pow18 (q : Q (.int 1000000000000000000) H) : rI CPow (fun i j => .int (i ^ j.toNat)) (.int 10) (.int 18) H Q := pow_ok (n := 0) (j := 18) (by decide) (by decide) (by decide) q
theorem r_pow6 (q : Q (.int 1000000) H) : rI CPow (fun i j => .int (i ^ j.toNat)) (.int 10) (.int 6) H Q := pow_ok (n := 0) (j := 6) (by decide) (by decide) (by decide) q
theorem r_powM (q : Q (.int 948273388530662767682822077) H) : rI CPow (fun i j => .int (i ^ j.toNat)) (.int 982451653) (.int 3) H Q := pow_ok (n := 0) (j := 3) (by decide) (by decide) (by decide) q
theorem r_eqI {i j : Int} (q : Q (.bl (decide (i = j))) H) : rEq (.int i) (.int j) H Q := ⟨rfl, by
  rw [show decide (V.int i = V.int j) = decide (i = j) from decide_eq_decide.mpr ⟨fun z => by cases z; rfl, fun z => by rw [z]⟩]; exact q⟩
theorem r_neI {i j : Int} (q : Q (.bl (!decide (i = j))) H) : rNe (.int i) (.int j) H Q := ⟨rfl, by
  rw [show decide (V.int i = V.int j) = decide (i = j) from decide_eq_decide.mpr ⟨fun z => by cases z; rfl, fun z => by rw [z]⟩]; exact q⟩
theorem r_eqB {i j : Bool} (q : Q (.bl (decide (i = j))) H) : rEq (.bl i) (.bl j) H Q := ⟨rfl, by
  rw [show decide (V.bl i = V.bl j) = decide (i = j) from decide_eq_decide.mpr ⟨fun z => by cases z; rfl, fun z => by rw [z]⟩]; exact q⟩
theorem r_eqS {i j : Str} (q : Q (.bl (decide (i = j))) H) : rEq (.str i) (.str j) H Q := ⟨rfl, by
  rw [show decide (V.str i = V.str j) = decide (i = j) from decide_eq_decide.mpr ⟨fun z => by cases z; rfl, fun z => by rw [z]⟩]; exact q⟩
theorem r_ret {te : TE} (q : te σ H D.rt) : tRet te D σ H := q
theorem r_next (q : D.nx σ H) : tNext D σ H := q
theorem r_drop {te : TE} (q : te σ H fun _ H1 => D.nx σ H1) : tDrop te D σ H := q
theorem r_not {t : TT} {R : Bool → Hp → Prop} (q : t σ H fun c H1 => R (!c) H1) : tNot t σ H R := q
theorem r_truth {te : TE} {R : Bool → Hp → Prop} (q : te σ H fun x H' => ∃ k, TruV K x H' k ∧ R k H') : tTru K te σ H R := q
theorem r_blT {b : Bool} {R : Bool → Prop} (q : R b) : ∃ k, TruV K (.bl b) H k ∧ R k := ⟨b, rfl, q⟩
theorem r_lstT {p : Addr} {xs : List V} {R : Bool → Prop} (h : SqL K H p xs) (q : R (!xs.isEmpty)) : ∃ k, TruV K (.ref p) H k ∧ R k := ⟨_, .inl ⟨xs, h, rfl⟩, q⟩
theorem r_and {t u : TT} {R : Bool → Hp → Prop} (q : t σ H fun c H1 => if c = true then u σ H1 R else R false H1) : tAnd t u σ H R := q
theorem r_or {t u : TT} {R : Bool → Hp → Prop} (q : t σ H fun c H1 => if c = true then R true H1 else u σ H1 R) : tOr t u σ H R := q
theorem r_andV {ta tb : TE} (q : ta σ H fun x H1 => ∃ c, x = .bl c ∧ if c = true then tb σ H1 Q else Q (.bl false) H1) : tAndV ta tb σ H Q := q
theorem r_notV {ta : TE} (q : ta σ H fun x H1 => ∃ c, x = .bl c ∧ Q (.bl (!c)) H1) : tNotV ta σ H Q := q
theorem r_ifE {t : TT} {ta tb : TE} (q : t σ H fun c H1 => if c = true then ta σ H1 Q else tb σ H1 Q) : tIf t ta tb σ H Q := q
theorem r_call {sp : Sp} {dvs : List V} {E : XK} {t : TA} (q : t σ H fun vs H1 => sp (vs ++ dvs) H1 Q E) : tCall sp dvs E t σ H Q := q
theorem r_cb {r : List V → Hp → VK → Prop} {t : TA} (q : t σ H fun vs H1 => r vs H1 Q) : tCB r t σ H Q := q
theorem r_cons {ta : TE} {tr : TA} {R : List V → Hp → Prop} (q : ta σ H fun x H1 => tr σ H1 fun xs H2 => R (x :: xs) H2) : tCons ta tr σ H R := q
theorem r_nil {R : List V → Hp → Prop} (q : R [] H) : tNil σ H R := q
theorem r_meth {C : Addr} {m : Str} {sp : Sp} {dvs : List V} {E : XK} {ta : TE} {t : TA} (q : ta σ H fun x H1 => ∃ a dx fs, x = .ref a ∧ H1 a = some (.ins C dx fs) ∧ fs.lookup m = none ∧ t σ H1 fun vs H2 => sp (x :: (vs ++ dvs)) H2 Q E) : tMeth C m sp dvs E ta t σ H Q := q
theorem r_self {C : Addr} {m : Str} {sp : Sp} {dvs : List V} {E : XK} {t : TA} {a dx : Addr} {fs : List (Str × V)} (h : H a = some (.ins C dx fs)) (l : fs.lookup m = none) (q : t σ H fun vs H2 => sp (.ref a :: (vs ++ dvs)) H2 Q E) :
    ∃ b dx fs, V.ref a = .ref b ∧ H b = some (.ins C dx fs) ∧ fs.lookup m = none ∧ t σ H fun vs H2 => sp (.ref a :: (vs ++ dvs)) H2 Q E := ⟨a, dx, fs, rfl, h, l, q⟩
theorem r_make {C : Addr} {sp : Sp} {dvs : List V} {E : XK} {t : TA} (q : t σ H fun vs H1 => ∀ x dx, H1 x = none → H1 dx = none → dx ≠ x →
  sp (.ref x :: (vs ++ dvs)) (upd (upd H1 dx (.own x)) x (.ins C dx [])) (fun v H2 => v = .non ∧ Q (.ref x) H2) E) : tMake C sp dvs E t σ H Q := q
def rFld (K : PySem.W.Frag) (f : Str) : V → Hp → VK → Prop := fun x H Q => ∃ a C dx fs v, x = .ref a ∧ H a = some (.ins C dx fs) ∧ Cls K C ∧ NoAttr K C f ∧ fs.lookup f = some v ∧ Q v H
theorem r_fldK {ta : TE} {f : Str} (q : ta σ H fun x H1 => rFld K f x H1 Q) : tFld K ta f σ H Q := q
theorem r_fat {f : Str} {a C dx : Addr} {fs : List (Str × V)} {v : V} (h : H a = some (.ins C dx fs)) (c : Cls K C) (n : NoAttr K C f) (l : fs.lookup f = some v) (q : Q v H) : rFld K f (.ref a) H Q := ⟨a, C, dx, fs, v, rfl, h, c, n, l, q⟩
def rSat (K : PySem.W.Frag) (f : Str) (y : V) : V → Hp → (Hp → Prop) → Prop := fun x H Q => ∃ a C dx fs, x = .ref a ∧ H a = some (.ins C dx fs) ∧ Cls K C ∧ NoAttr K C f ∧ fs.length < 1000 ∧ Q (upd H a (.ins C dx (putF f y fs)))
theorem r_sfld {ta tv : TE} {f : Str} (q : tv σ H fun y H1 => ta σ H1 fun x H2 => rSat K f y x H2 fun H3 => D.nx σ H3) : sFld K ta tv f D σ H := q
theorem r_sat {f : Str} {y : V} {a C dx : Addr} {fs : List (Str × V)} {R : Hp → Prop} (h : H a = some (.ins C dx fs)) (c : Cls K C) (n : NoAttr K C f) (l : fs.length < 1000) (q : ∀ H', H' a = some (.ins C dx (putF f y fs)) → But a H H' → R H') : rSat K f y (.ref a) H R :=
  ⟨a, C, dx, fs, rfl, h, c, n, l, q _ upd_same but_upd⟩
theorem lt1000 {n : Nat} (h : Nat.ble (n + 1) 1000 = true) : n < 1000 := Nat.le_of_ble_eq_true h
def rNewT (xs : List V) (H : Hp) (Q : VK) : Prop := xs.length ≤ sizeLine ∧ ∀ p, H p = none → Q (.ref p) (upd H p (.tup xs))
def rNewL (xs : List V) (H : Hp) (Q : VK) : Prop := xs.length ≤ sizeLine ∧ ∀ p, H p = none → Q (.ref p) (upd H p (.lst xs))
theorem r_tup {t : TA} (q : t σ H fun xs H1 => rNewT xs H1 Q) : tTup t σ H Q := q
theorem r_lst {t : TA} (q : t σ H fun xs H1 => rNewL xs H1 Q) : tLst t σ H Q := q
theorem r_newT {xs : List V} (c : Nat.ble xs.length 1000 = true) (q : ∀ p H', H p = none → H' p = some (.tup xs) → Ext H H' → Q (.ref p) H') : rNewT xs H Q :=
  ⟨Nat.le_trans (Nat.le_of_ble_eq_true c) (by rw [sizeLine_eq]; decide), fun p n => q p _ n upd_same (ext_upd n)⟩
theorem r_newL {xs : List V} (c : Nat.ble xs.length 1000 = true) (q : ∀ p H', H p = none → H' p = some (.lst xs) → Ext H H' → Q (.ref p) H') : rNewL xs H Q :=
  ⟨Nat.le_trans (Nat.le_of_ble_eq_true c) (by rw [sizeLine_eq]; decide), fun p n => q p _ n upd_same (ext_upd n)⟩
theorem r_for {wi : TI} {g : TG} {tb : TS} (q : wi σ H fun J H1 => ∃ W : Nat → Nat → St → Hp → Prop, (∃ m, W 0 m σ H1) ∧ ∀ i m σ H, W i m σ H →
  (J.stop i H ∧ D.nx σ H) ∨ (J.go i H ∧ ∃ N : St → Hp → Prop, (∀ σ' H', N σ' H' → ∃ m', m' < m ∧ W (i + 1) m' σ' H') ∧ ∀ x H', J.yld i H x H' → g x σ H' fun σ2 H2 => tb { D with nx := N, ct := N, bk := D.nx } σ2 H2)) : tFor wi g tb D σ H := q
theorem r_rng1 {ta : TA} {R : It → Hp → Prop} (q : ta σ H fun vs H1 => ∃ j : Int, vs = [.int j] ∧ -(2 ^ 62) ≤ j ∧ j < 2 ^ 62 ∧ R (Itr 0 j.toNat) H1) : iRng1 ta σ H R := q
theorem r_ilist {tl : TE} {R : It → Hp → Prop} (q : tl σ H fun x H1 => ∃ a, x = .ref a ∧ (∃ xs, SqL K H1 a xs) ∧ R (Itl K a) H1) : iList K tl σ H R := q
theorem r_itup {tl : TE} {R : It → Hp → Prop} (q : tl σ H fun x H1 => ∃ a, x = .ref a ∧ (∃ xs, SqT K H1 a xs) ∧ R (Itt K a) H1) : iTup K tl σ H R := q
theorem r_bm {T : String} {r : V → List V → Hp → VK → Prop} {to : TE} {t : TA} (q : to σ H fun x H1 => tyV K T x H1 ∧ t σ H1 fun vs H2 => r x vs H2 Q) : tBM K T r to t σ H Q := q
theorem r_tyl {p : Addr} {xs : List V} {R : Prop} (h : H p = some (.lst xs)) (q : R) : tyV K "list" (.ref p) H ∧ R := ⟨.inl ⟨rfl, xs, SqL.of h⟩, q⟩
theorem r_append {p : Addr} {xs : List V} {y : V} (h : H p = some (.lst xs)) (l : xs.length < 1000000) (q : ∀ H', H' p = some (.lst (xs ++ [y])) → But p H H' → Q .non H') : rAppend (.ref p) [y] H Q :=
  ⟨p, xs, y, rfl, rfl, h, Nat.lt_of_lt_of_le l (by rw [sizeLine_eq]; decide), q _ upd_same but_upd⟩
theorem r_gnil {R : St → Hp → Prop} (q : R σ H) : gNil [] σ H R := ⟨rfl, q⟩
theorem r_gcons {t : TG} {u : TGs} {v : V} {r : List V} {R : St → Hp → Prop} (q : t v σ H fun σ' H' => u r σ' H' R) : gCons t u (v :: r) σ H R := ⟨v, r, rfl, q⟩
theorem r_gtup {n : Nat} {t : TGs} {a : Addr} {xs : List V} {R : St → Hp → Prop} (h : H a = some (.tup xs)) (l : xs.length = n) (q : t xs σ H R) : gTup K n t (.ref a) σ H R := ⟨a, xs, rfl, SqT.of h, l, q⟩
theorem r_max {i j : Int} (q : Q (.int (max i j)) H) : rMax2 [.int i, .int j] H Q := ⟨i, j, rfl, q⟩
theorem r_min {i j : Int} (q : Q (.int (min i j)) H) : rMin2 [.int i, .int j] H Q := ⟨i, j, rfl, q⟩
theorem r_abs {i : Int} (q : Q (.int (i.natAbs : Int)) H) : rAbs [.int i] H Q := ⟨i, rfl, q⟩
theorem r_intB {i : Bool} (q : Q (.int (if i then 1 else 0)) H) : rInt1 [.bl i] H Q := .inr ⟨i, rfl, q⟩
theorem r_isN {x : V} (q : Q (.bl (decide (x = .non))) H) : rIsNo x .non H Q := ⟨rfl, q⟩
theorem r_isI {x : V} {k : Kd} (h : HasK H x k) (q : Q (.bl (k == .int || k == .bl)) H) : rIsin K [x, .ty "int"] H Q := ⟨x, _, _, .inl ⟨_, rfl, kit_int k⟩, h.tyOf, q⟩
theorem r_isB {x : V} {k : Kd} (h : HasK H x k) (q : Q (.bl (k == .bl)) H) : rIsin K [x, .ty "bool"] H Q := ⟨x, _, _, .inl ⟨_, rfl, kit_bool k⟩, h.tyOf, q⟩
theorem r_isS {x : V} {k : Kd} (h : HasK H x k) (q : Q (.bl (k == .str)) H) : rIsin K [x, .ty "str"] H Q := ⟨x, _, _, .inl ⟨_, rfl, kit_str k⟩, h.tyOf, q⟩
theorem r_isT {x : V} {k : Kd} (h : HasK H x k) (q : Q (.bl (k == .tup)) H) : rIsin K [x, .ty "tuple"] H Q := ⟨x, _, _, .inl ⟨_, rfl, kit_tuple k⟩, h.tyOf, q⟩
theorem r_isL {x : V} {k : Kd} (h : HasK H x k) (q : Q (.bl (k == .lst)) H) : rIsin K [x, .ty "list"] H Q := ⟨x, _, _, .inl ⟨_, rfl, kit_list k⟩, h.tyOf, q⟩
theorem r_lenS {p : Addr} {xs : List V} (h : SqL K H p xs) (q : Q (.int xs.length) H) : rLen K [.ref p] H Q := ⟨_, _, rfl, .inl ⟨xs, h, rfl⟩, q⟩
theorem r_lenL {p : Addr} {xs : List V} (h : H p = some (.lst xs)) (q : Q (.int xs.length) H) : rLen K [.ref p] H Q := ⟨_, _, rfl, .inl ⟨xs, SqL.of h, rfl⟩, q⟩
theorem r_lenT {p : Addr} {xs : List V} (h : H p = some (.tup xs)) (q : Q (.int xs.length) H) : rLen K [.ref p] H Q := ⟨_, _, rfl, .inr ⟨xs, SqT.of h, rfl⟩, q⟩
theorem r_ixS {p : Addr} {xs : List V} {i : Int} {v : V} (h : SqL K H p xs) (e : atI xs i = some v) (q : Q v H) : rIx K (.ref p) (.int i) H Q := .inl ⟨p, xs, i, v, rfl, rfl, h, e, q⟩
theorem r_ixL {p : Addr} {xs : List V} {i : Int} {v : V} (h : H p = some (.lst xs)) (e : atI xs i = some v) (q : Q v H) : rIx K (.ref p) (.int i) H Q := .inl ⟨p, xs, i, v, rfl, rfl, SqL.of h, e, q⟩
theorem r_ixT {p : Addr} {xs : List V} {i : Int} {v : V} (h : H p = some (.tup xs)) (e : atI xs i = some v) (q : Q v H) : rIx K (.ref p) (.int i) H Q := .inr (.inl ⟨p, xs, i, v, rfl, rfl, SqT.of h, e, q⟩)
theorem atI_int {α : Type} {xs : List α} {i : Int} {v : α} (h0 : 0 ≤ i) (h : xs[i.toNat]? = some v) : atI xs i = some v := by
  have := atI_nat h
  rwa [Int.toNat_of_nonneg h0] at this
theorem r_listT {p : Addr} {xs : List V} (h : H p = some (.tup xs)) (q : ∀ l H', H l = none → H' l = some (.lst xs) → Ext H H' → Q (.ref l) H') : rList K [.ref p] H Q := ⟨p, xs, rfl, .inr (SqT.of h), fun l n => q l _ n upd_same (ext_upd n)⟩
theorem r_listL {p : Addr} {xs : List V} (h : H p = some (.lst xs)) (q : ∀ l H', H l = none → H' l = some (.lst xs) → Ext H H' → Q (.ref l) H') : rList K [.ref p] H Q := ⟨p, xs, rfl, .inl (SqL.of h), fun l n => q l _ n upd_same (ext_upd n)⟩
theorem r_tupleL {p : Addr} {xs : List V} (h : H p = some (.lst xs)) (q : ∀ l H', H l = none → H' l = some (.tup xs) → Ext H H' → Q (.ref l) H') : rTuple K [.ref p] H Q := ⟨p, xs, rfl, .inl ⟨SqL.of h, fun l n => q l _ n upd_same (ext_upd n)⟩⟩
theorem r_sum {p : Addr} {ns : List Int} (h : H p = some (.lst (ns.map V.int))) (q : Q (.int ns.sum) H) : rSum K [.ref p] H Q := ⟨p, ns, rfl, SqL.of h, q⟩
theorem r_notinL {p : Addr} {x : V} {xs : List V} (h : H p = some (.lst xs)) (fx : flatV x = true) (fl : xs.all flatV = true) (q : Q (.bl (!inV x xs)) H) : rInU K true x (.ref p) H Q := ⟨p, xs, rfl, .inl (SqL.of h), fx, fl, q⟩
end
theorem iteD {c A B : Prop} [Decidable c] (h1 : c → A) (h2 : ¬ c → B) : if decide c = true then A else B := by
  by_cases h : c
  · rw [decide_eq_true h]; exact iteT (h1 h)
  · rw [decide_eq_false h]; exact iteF (h2 h)
theorem iteN {c A B : Prop} [Decidable c] (h1 : ¬ c → A) (h2 : c → B) : if (!decide c) = true then A else B := by
  by_cases h : c
  · rw [decide_eq_true h]; exact iteF (h2 h)
  · rw [decide_eq_false h]; exact iteT (h1 h)
theorem mulM {c n : Int} (hb : ib c ≤ 1048577) (n0 : 0 ≤ n) (n1 : n < 2147483629) : CMulB (c + n) 948273388530662767682822077 := by
  refine .inr (.inr ?_)
  have h1 : ib n ≤ 31 := intBits_le (by omega)
  have h2 : ib (c + n) ≤ 1048578 := by
    exact Nat.le_trans (PySem.intBits_add_le hb h1) (by decide)
  have h3 : ib 948273388530662767682822077 ≤ 100 := intBits_le (by decide)
  unfold IntMulOk
  have h : Builtin.Int.intTooBig (Builtin.Int.intBits (c + n) + Builtin.Int.intBits 948273388530662767682822077) = false := by
    unfold Builtin.Int.intTooBig bitsLine
    have h4 : Builtin.Int.intBits (c + n) ≤ 1048578 := h2
    have h5 : Builtin.Int.intBits 948273388530662767682822077 ≤ 100 := h3
    exact decide_eq_false (by omega)
  rw [h]
  simp
abbrev NoX : Value → Shared → Prop := fun _ _ => False
def tTests : List TT → TT
  | [] => fun _ H Q => Q true H
  | t :: r => fun σ H Q => t σ H fun b H1 => if b = true then tTests r σ H1 Q else Q false H1
def PTs (X : Cx) : List Expr → List TT → Prop
  | [], [] => True
  | e :: es, t :: ts => PT X e t ∧ PTs X es ts
  | _, _ => False
def testsRun (env : Env) (ifs : List Expr) (b : Bool) : Sem Bool := forIn ifs b fun c r => if r = true then do let ok ← isTrue c env (eval c env); pure (ForInStep.yield ok) else pure (ForInStep.yield r)
theorem tests_off {M : Model} {A : Around} {E : Value → Shared → Prop} {s : Shared} {env : Env} {Q : Bool → Shared → Prop} (h : Q false s) : ∀ ifs : List Expr, wpAny M A (testsRun env ifs false) Q E s
  | [] => wpAny_pure h
  | c :: r => by
    unfold testsRun
    rw [List.forIn_cons]
    simp only [Bool.false_eq_true, if_false]
    exact wpAny_bind (wpAny_pure (tests_off h r))
theorem tests_ok {X : Cx} {pins : List (Addr × Obj)} {σ : St} {Q : Bool → Hp → Prop} : ∀ (ifs : List Expr) (ts : List TT) (s : Shared) (H : Hp), PTs X ifs ts → Inv X pins σ H s → tTests ts σ H Q → wpAny (model X.prog X.w) X.A (testsRun X.env ifs true) (TP X pins σ Q) X.xe s
  | [], [], s, H, _, I, h => wpAny_pure ⟨H, I, h⟩
  | [], _ :: _, _, _, p, _, _ => p.elim
  | _ :: _, [], _, _, p, _, _ => p.elim
  | c :: r, t :: ts, s, H, p, I, h => by
    unfold testsRun
    rw [List.forIn_cons]
    simp only [if_true]
    refine wpAny_bind (wpAny_bind (thn (p.1 pins s σ H _ I h) fun b s1 ⟨H1, I1, q1⟩ => wpAny_pure ?_))
    cases b with
    | true => exact tests_ok r ts s1 H1 p.2 I1 (by simpa using q1)
    | false => exact tests_off ⟨H1, I1, by simpa using q1⟩ r
section
variable {prog : Program} {w : World} {A : Around} {R : Result → Shared → Prop}
theorem comp_loop {elt tg iter : Expr} {ifs : List Expr} {scope : Scope} {pos : Pos} {it acc : Value} {env : Env} (J : Nat → Shared → Prop)
    (turn : ∀ n s, J n s → wpAny (model prog w) A (pyNext it) (fun r s1 => match r with
      | none => R (.ok .next) s1
      | some v => wpAny (model prog w) A (letOwnedTupleGo tg it v) (fun _ s2 => wpAny (model prog w) A (assign tg env v) (fun _ s3 => wpAny (model prog w) A (testsRun env ifs true) (fun ok s4 =>
          if ok = true then wpAny (model prog w) A (eval elt env) (fun x s5 => wpAny (model prog w) A (call (.builtin "list.append") [acc, x]) (fun _ s6 => ∃ m, m < n ∧ J m s6) NoX s5) NoX s4
          else ∃ m, m < n ∧ J m s4) NoX s3) NoX s2) NoX s1) NoX s) (n : Nat) {s : Shared} (h : J n s) :
    codeAny (model prog w) A (.compLoop (.ListComp elt [⟨tg, iter, ifs, 0⟩] scope pos) 0 it acc env) R s := by
  refine codeAny_loop rfl J (fun n s hJ => ?_) n h
  show wpAny _ A ((compTurn (.ListComp elt [⟨tg, iter, ifs, 0⟩] scope pos) 0 it acc env).onRaise _) _ _ s
  refine wpAny_noted ?_
  have nx : ∀ {E : Value → Shared → Prop} (e : Value) (s : Shared), NoX e s → E e s := fun _ _ f => f.elim
  rw [compTurn_list]
  refine wpAny_bind (wpAny_standAt (wpAny_bind (wpAny_mono (turn n s hJ) (fun r s1 q1 => ?_) nx)))
  cases r with
  | none => exact wpAny_pure q1
  | some v =>
    refine wpAny_bind (wpAny_mono q1 (fun _ s2 q2 => ?_) nx)
    refine wpAny_bind (wpAny_mono q2 (fun _ s3 q3 => ?_) nx)
    refine wpAny_bind (wpAny_mono (show wpAny _ _ (testsRun env ifs true) _ _ _ from q3) (fun ok s4 q4 => ?_) nx)
    cases ok with
    | false => exact wpAny_pure ⟨rfl, q4⟩
    | true =>
      refine wpAny_bind (wpAny_bind (wpAny_mono q4 (fun x s5 q5 => ?_) nx))
      exact wpAny_bind (wpAny_mono q5 (fun _ s6 q6 => wpAny_pure (wpAny_pure ⟨rfl, q6⟩)) nx)
end
def closOf (cells : List (Str × Addr)) : List (Str × NameKind) → List (Str × Addr) → Option (List (Str × Addr))
  | [], cs => some cs
  | (n, k) :: r, cs => if (k == .free) = true then (match cells.lookup n with | some a => closOf cells r ((n, a) :: cs) | none => none) else closOf cells r cs
theorem clos_run {env : Env} : ∀ (names : List (Str × NameKind)) (cs cl : List (Str × Addr)), closOf env.cells names cs = some cl →
    (forIn names cs fun x r => match x with | (name, kind) => if (kind == .free) = true then do let a ← cellOf env name; pure (ForInStep.yield ((name, a) :: r)) else pure (ForInStep.yield r) : Sem (List (Str × Addr))) = pure cl
  | [], cs, cl, h => by
    cases h
    rfl
  | (n, k) :: r, cs, cl, h => by
    rw [List.forIn_cons]
    unfold closOf at h
    by_cases hk : (k == NameKind.free) = true
    · rw [if_pos hk] at h
      dsimp only
      rw [if_pos hk]
      unfold cellOf
      cases e : env.cells.lookup n with
      | none => rw [e] at h; cases h
      | some a =>
        rw [e] at h
        exact clos_run r _ cl h
    · rw [if_neg hk] at h
      dsimp only
      rw [if_neg hk]
      exact clos_run r cs cl h
theorem closureFor_of {scope : Scope} {env : Env} {cl : List (Str × Addr)} (h : closOf env.cells scope.names [] = some cl) : closureFor scope env = pure cl := by
  have e : closureFor scope env = ((forIn scope.names ([] : List (Str × Addr)) fun x r => match x with | (name, kind) => if (kind == .free) = true then do let a ← cellOf env name; pure (ForInStep.yield ((name, a) :: r)) else pure (ForInStep.yield r) : Sem (List (Str × Addr))) >>= fun cs => pure cs) := by
    first | rfl | (unfold closureFor; rfl)
  rw [e, clos_run _ _ _ h]
  rfl
theorem clos_sub {cells : List (Str × Addr)} : ∀ (names : List (Str × NameKind)) (cs cl : List (Str × Addr)), closOf cells names cs = some cl → (∀ x c, cs.lookup x = some c → cells.lookup x = some c) → ∀ x c, cl.lookup x = some c → cells.lookup x = some c
  | [], cs, cl, h, p => by cases h; exact p
  | (n, k) :: r, cs, cl, h, p => by
    unfold closOf at h
    split at h
    · split at h
      · rename_i a e
        refine clos_sub r _ cl h fun x c q => ?_
        rw [List.lookup_cons] at q
        by_cases hx : (x == n) = true
        · rw [hx] at q
          have : x = n := by simpa using hx
          subst this
          cases q
          exact e
        · have hx' : (x == n) = false := by simpa using hx
          rw [hx'] at q
          exact p x c q
      · cases h
    · exact clos_sub r cs cl h p
theorem clos_has {cells : List (Str × Addr)} : ∀ (names : List (Str × NameKind)) (cs cl : List (Str × Addr)), closOf cells names cs = some cl → ∀ x, ((∃ c, cs.lookup x = some c) ∨ (x, NameKind.free) ∈ names) → ∃ c, cl.lookup x = some c
  | [], cs, cl, h, x, p => by
    cases h
    rcases p with p | p
    · exact p
    · simp at p
  | (n, k) :: r, cs, cl, h, x, p => by
    unfold closOf at h
    split at h
    · split at h
      · rename_i a e
        refine clos_has r _ cl h x ?_
        by_cases hx : x = n
        · exact .inl ⟨a, by rw [List.lookup_cons, hx]; simp⟩
        · have hx' : (x == n) = false := by simpa using hx
          rcases p with ⟨c, p⟩ | p
          · exact .inl ⟨c, by rw [List.lookup_cons, hx']; exact p⟩
          · rcases List.mem_cons.mp p with q | q
            · cases q; exact absurd rfl hx
            · exact .inr q
      · cases h
    · rename_i hk
      refine clos_has r _ cl h x ?_
      rcases p with p | p
      · exact .inl p
      · rcases List.mem_cons.mp p with q | q
        · cases q; exact absurd rfl hk
        · exact .inr q
theorem relabel_mem {scope : Scope} {env : Env} (hc : ∀ y ∈ scope.names, y.2 ≠ .cell) {x : Str} (h : (relabel scope env).names.lookup x = some .cell ∨ (relabel scope env).names.lookup x = some .free) : (x, NameKind.free) ∈ scope.names := by
  have key : ∀ k, (k = .cell ∨ k = .free) → (relabel scope env).names.lookup x = some k → (x, NameKind.free) ∈ scope.names := fun k hk e => by
    have m := PySem.mem_of_lookup e
    obtain ⟨⟨n, k'⟩, hm, e2⟩ := List.mem_map.mp m
    dsimp only at e2
    split at e2
    · rename_i q
      cases e2
      have : k' = .free := by
        have := (Bool.and_eq_true_iff.mp (Bool.and_eq_true_iff.mp q).1).1
        simpa using this
      subst this
      exact hm
    · cases e2
      rcases hk with rfl | rfl
      · exact absurd rfl (hc _ hm)
      · exact hm
  exact h.elim (key _ (.inl rfl)) (key _ (.inr rfl))
def cxComp (X : Cx) (pins : List (Addr × Obj)) (N : List Str) (scope : Scope) (cl : List (Str × Addr)) (fp : List Addr) (s : Shared) (H : Hp) : Cx where
  prog := X.prog
  w := X.w
  K := X.K
  mg := X.mg
  base := X.base
  A := X.A
  N := N
  s₀ := s
  H₀ := H
  env := compEnvC scope cl s.heap.objs.size X.env
  outer := X.stack
  stack := X.stack
  ex := fp
  fn := fun _ => false
  calm := X.calm
  pn := X.pn ++ pins
  xe := NoX
def Frees (X : Cx) (sc : Scope) : List Str → List Nat → Prop
  | [], [] => True
  | y :: ys, j :: js => (X.N[j]? = some y ∧ (X.env.kindOf y = some .cell ∨ X.env.kindOf y = some .free) ∧ (sc.names.lookup y = some .cell ∨ sc.names.lookup y = some .free)) ∧ Frees X sc ys js
  | _, _ => False
theorem Frees.get {X : Cx} {sc : Scope} : ∀ {ys : List Str} {js : List Nat} {i : Nat} {y : Str}, Frees X sc ys js → ys[i]? = some y → ∃ j, js[i]? = some j ∧ X.N[j]? = some y ∧ (X.env.kindOf y = some .cell ∨ X.env.kindOf y = some .free) ∧ (sc.names.lookup y = some .cell ∨ sc.names.lookup y = some .free)
  | [], _, _, _, _, e => by simp at e
  | _ :: _, [], _, _, h, _ => h.elim
  | y :: ys, j :: js, 0, z, h, e => by
    simp at e
    subst e
    exact ⟨j, rfl, h.1⟩
  | y :: ys, j :: js, i + 1, z, h, e => Frees.get (ys := ys) (js := js) (i := i) h.2 (by simpa using e)
theorem Frees.len {X : Cx} {sc : Scope} : ∀ {ys : List Str} {js : List Nat}, Frees X sc ys js → ys.length = js.length
  | [], [], _ => rfl
  | [], _ :: _, h => h.elim
  | _ :: _, [], h => h.elim
  | _ :: ys, _ :: js, h => by rw [List.length_cons, List.length_cons, Frees.len h.2]
def slotAt (σ : St) (j : Nat) : Option V := match σ[j]? with | some o => o | none => none
def cSt (own : List Str) (js : List Nat) (σ : St) : St := own.map (fun _ => none) ++ js.map (slotAt σ)
section
variable {X : Cx} {pins : List (Addr × Obj)} {σ : St} {H : Hp} {s : Shared}
theorem comp_start {own fr : List Str} {js : List Nat} {scope : Scope} {cl : List (Str × Addr)} {fp : List Addr} {h' : Heap} {tk : Nat} (I : Inv X pins σ H s) (hkind : scope.kind = .function) (hc : ∀ y ∈ scope.names, y.2 ≠ .cell)
    (hcl : closOf X.env.cells scope.names [] = some cl) (hF : Frees X (relabel scope X.env) fr js) (hfp : ∀ b ∈ fp, FpOk X pins H b) (hlt : ∀ b ∈ fp, b < s.heap.objs.size)
    (hn : h'.Ns s.heap.objs.size (fun _ => none)) (hk : ∀ b o, s.heap.get? b = some o → h'.get? b = some o) :
    Inv (cxComp X pins (own ++ fr) scope cl fp s H) [] (cSt own js σ) H { s with heap := h', toks := tk } := by
  have sub := clos_sub _ _ _ hcl (fun _ _ q => by simp at q)
  have clt : ∀ x c, X.env.cells.lookup x = some c → c < s.heap.objs.size := fun x c e => by obtain ⟨v, q⟩ := I.cell x c e; exact q.lt
  refine ⟨⟨I.ok.mod, hkind, I.ok.glob, I.ok.blt, Nat.le_refl _, fun x y c e1 e2 => I.ok.inj x y c (sub _ _ e1) (sub _ _ e2), fun x hx => ?_, (fun x c q => Bool.noConfusion (show false = true from q)), I.ok.hd, I.ok.frames, .inl rfl, fun b hb => ⟨Nat.ne_of_lt (hlt b hb), fun x c e => (hfp b hb).2.2.2.2.1 x c (sub x c e)⟩,
    I.bs, Nat.le_trans I.ok.bsz I.sz, fun b o e hb => ?_, fun b hb hq => ?_, I.stack, I.stkFree⟩, rfl, I.bare, Un.kept hk, ⟨_, hn, fun i x v e1 e2 e3 => ?_⟩, fun x c e => ?_, I.hok.fresh (Nat.le_refl _), fun x c e => I.freeC x c (sub x c e), fun p hp => ?_, I.hok.kept hk, ?_⟩
  · exact clos_has _ _ _ hcl x (.inr (relabel_mem hc hx))
  · rcases (hfp b hb).2.2.2.1 with q | q
    · exact I.ok.noex b o e q
    · exact absurd (Heap.lt_size (I.ok.bs b o e).1) (Nat.not_lt.mpr q)
  · have := I.stkSub b hq
    rcases List.mem_cons.mp this with z | z
    · exact (hfp b hb).2.1 z
    · exact (hfp b hb).2.2.1 z
  · have hi : own.length ≤ i := by
      refine Nat.le_of_not_lt fun q => ?_
      unfold cSt at e2
      rw [List.getElem?_append_left (by simpa using q), List.getElem?_map] at e2
      cases z : own[i]? with
      | none => rw [z] at e2; cases e2
      | some y => rw [z] at e2; cases e2
    have e1' : fr[i - own.length]? = some x := by
      have : (own ++ fr)[i]? = some x := e1
      rwa [List.getElem?_append_right hi] at this
    obtain ⟨j, hj, nj, kj, lj⟩ := hF.get e1'
    have e2' : slotAt σ j = some v := by
      unfold cSt at e2
      rw [List.getElem?_append_right (by simpa using hi), List.length_map, List.getElem?_map, hj] at e2
      exact Option.some.inj e2
    have e4 : σ[j]? = some (some v) := by
      unfold slotAt at e2'
      split at e2'
      · rename_i o q; rw [q, e2']
      · cases e2'
    obtain ⟨m, hm, hl⟩ := I.loc
    obtain ⟨u, ru, lk⟩ := hl j x v nj e4 (kj.elim (fun q => .inr (.inl q)) fun q => .inr (.inr q))
    refine ⟨u, ru, .inr ⟨lj, ?_⟩⟩
    rcases lk with ⟨q, _⟩ | ⟨_, c, ec, ic⟩
    · rcases kj with k | k <;> (rw [q] at k; cases k)
    · obtain ⟨c', ec'⟩ := clos_has _ _ _ hcl x (.inr (relabel_mem hc lj))
      have := sub _ _ ec'
      rw [ec] at this
      cases this
      exact ⟨c, ec', ic.keeps hk⟩
  · obtain ⟨v, q⟩ := I.cell x c (sub x c e)
    exact ⟨v, q.keeps hk⟩
  · have hp' : p ∈ X.pn ++ pins := by
      rcases List.mem_append.mp hp with q | q
      · exact q
      · simp at q
    obtain ⟨q1, q2, q3, q4, q5⟩ := I.pin p hp'
    refine ⟨hk _ _ q1, q2, Nat.ne_of_lt (Heap.lt_size q1), fun z => ?_, q5⟩
    rcases List.mem_cons.mp (I.stkSub _ z) with y | y
    · exact q3 y
    · exact q4 y
  · show (cSt own js σ).length = (own ++ fr).length
    unfold cSt
    rw [List.length_append, List.length_append, List.length_map, List.length_map, hF.len]
theorem comp_back {N : List Str} {scope : Scope} {cl : List (Str × Addr)} {fp : List Addr} {σ' : St} {H' : Hp} {s' : Shared} {ps : List (Addr × Obj)} (I : Inv X pins σ H s) (hfp : ∀ b ∈ fp, FpOk X pins H b)
    (J : Inv (cxComp X pins N scope cl fp s H) ps σ' H' s') : Inv X pins σ H' s' := by
  refine I.call' (ch := fp) J.os J.base J.hok J.bare fun b hb => ?_
  obtain ⟨_, f1, _, f3, f4, f5⟩ := hfp b hb
  exact ⟨f3, f1, f4, f5⟩
end
def accO (a : Addr) (ys : List V) : HO := .ext fun h => ys.length ≤ sizeLine ∧ ∃ (its : List Value) (n : Nat), Vals ys its ∧ h.get? a = some { cls := .type "list", data := .seq its.toArray n }
theorem acc_of {P : Program} {w : World} {H : Hp} {h : Heap} {a : Addr} {ys : List V} (o : ObjOk P w H h a (.lst ys)) : ObjOk P w H h a (accO a ys) := by
  obtain ⟨z, its, n, r, e⟩ := o
  exact ⟨⟨z, its, n, r, e⟩, ⟨_, e⟩, fun h1 h2 ⟨z, its, n, r, e⟩ k => ⟨z, its, n, r, k _ e⟩⟩
theorem of_acc {P : Program} {w : World} {H : Hp} {h : Heap} {a : Addr} {ys : List V} (o : ObjOk P w H h a (accO a ys)) : ObjOk P w H h a (.lst ys) := by
  obtain ⟨⟨z, its, n, r, e⟩, _⟩ := o
  exact ⟨z, its, n, r, e⟩
def plainO : HO → Bool
  | .lst _ => true | .ext _ => true | _ => false
theorem Inv.retrack {X : Cx} {pins : List (Addr × Obj)} {σ : St} {H : Hp} {s : Shared} {a : Addr} {o o' : HO} (I : Inv X pins σ H s) (h : H a = some o) (hp : plainO o = true) (new : ∀ H', ObjOk X.prog X.w H' s.heap a o') : Inv X pins σ (upd H a o') s := by
  have ne : ∀ {b : Addr} {u : HO}, H b = some u → plainO u = false → b ≠ a := fun hb hu z => by subst z; rw [h] at hb; cases hb; rw [hp] at hu; cases hu
  have I' := I.un (h' := s.heap) (t' := s.toks) (H' := upd H a o') ⟨fun _ _ e _ _ _ => e, fun b u e _ _ _ => ⟨u.slots, e⟩, fun b u _ n _ => by rw [upd_ne (fun z => by subst z; rw [h] at n; cases n)]; exact n, fun b u e _ => ⟨u, e⟩,
    fun b xs e => by rw [upd_ne (ne e rfl)]; exact e, fun b ob u e => by rw [upd_ne (ne e rfl)]; exact e, fun b ps e => ⟨#[], by rw [upd_ne (ne e rfl), e]; simp⟩⟩ (fun b u e => by
      by_cases hb : b = a
      · subst hb; rw [upd_same] at e; cases e; exact new _
      · rw [upd_ne hb] at e
        exact (I.hok b u e).stay (fun _ _ _ q => q) (fun c q => by rw [upd_ne (ne q rfl)]; exact q) fun c xs q => by rw [upd_ne (ne q rfl)]; exact q)
  exact I'
theorem kp_upd {H : Hp} {a : Addr} {o o' : HO} (h : H a = some o) (hd : isData o = false) : Kp H (upd H a o') := fun b u e d => by
  rw [upd_ne (fun z => by subst z; rw [h] at e; cases e; rw [hd] at d; cases d)]; exact e
def rComp (J : It) (g : TG) (ts : List TT) (te : TE) (acc : Addr) (σ0 : St) (H0 : Hp) (Q : Hp → Prop) : Prop :=
  ∃ W : Nat → Nat → St → List V → Hp → Prop, (∃ m, W 0 m σ0 [] (upd H0 acc (accO acc []))) ∧ ∀ i m σ ys H, W i m σ ys H → H acc = some (accO acc ys) →
    (J.stop i H ∧ Q (upd H acc (.lst ys))) ∨ (J.go i H ∧ ∀ x H', J.yld i H x H' → g x σ H' fun σ2 H2 => tTests ts σ2 H2 fun b H3 =>
      if b = true then te σ2 H3 fun y H4 => H4 acc = some (accO acc ys) ∧ ys.length < sizeLine ∧ ∃ m', m' < m ∧ W (i + 1) m' σ2 (ys ++ [y]) (upd H4 acc (accO acc (ys ++ [y])))
      else H3 acc = some (accO acc ys) ∧ ∃ m', m' < m ∧ W (i + 1) m' σ2 ys H3)
abbrev CA (α : Type) := List (Addr × Obj) → List Addr → Shared → Hp → α
def tComp (wi : TI) (own : List Str) (js : List Nat) (g : CA TG) (ts : CA (List TT)) (te : CA TE) : TE := fun σ H Q => wi σ H fun J H1 => ∀ acc, H1 acc = none → ∀ pins fp s Hc, rComp J (g pins fp s Hc) (ts pins fp s Hc) (te pins fp s Hc) acc (cSt own js σ) H1 fun H' => Q (.ref acc) H'
structure CompOk (X : Cx) (scope : Scope) (cl : List (Str × Addr)) (own fr : List Str) (js : List Nat) : Prop where
  kind : scope.kind = .function
  nc : ∀ y ∈ scope.names, y.2 ≠ .cell
  nl : ∀ y ∈ scope.names, y.2 = .local → scope.names.lookup y.1 = some .local
  clos : closOf X.env.cells scope.names [] = some cl
  frees : Frees X (relabel scope X.env) fr js
section
variable {X : Cx} {pins : List (Addr × Obj)} {σ : St} {H : Hp} {s : Shared}
theorem comp_core {elt tg iter : Expr} {ifs : List Expr} {scope : Scope} {pos : Pos} {cl : List (Str × Addr)} {own fr : List Str} {js : List Nat} {g : CA TG} {ts : CA (List TT)} {te : CA TE} {R : Hp → Addr → Prop} {RR : Value → Addr → Result → Shared → Prop} {it : Addr} {fp : List Addr} {tn : Nat → Heap → Prop} {J : It} {E : Value → Shared → Prop}
    (O : CompOk X scope cl own fr js) (hcalm : X.calm = true)
    (hb : ∀ pins fp s Hc, PG (cxComp X pins (own ++ fr) scope cl fp s Hc) tg (g pins fp s Hc) ∧ PTs (cxComp X pins (own ++ fr) scope cl fp s Hc) ifs (ts pins fp s Hc) ∧ PE (cxComp X pins (own ++ fr) scope cl fp s Hc) elt (te pins fp s Hc))
    (I : Inv X pins σ H s) (T : Turn X.prog X.w X.K tg J fp it tn) (t0 : tn 0 s.heap) (hf : ∀ b ∈ fp, FpOk X pins H b)
    (h : ∀ acc, H acc = none → ∀ pins fp s Hc, rComp J (g pins fp s Hc) (ts pins fp s Hc) (te pins fp s Hc) acc (cSt own js σ) H fun H' => R H' acc)
    (fin : ∀ acc C H' s' m, Inv X pins σ H' s' → R H' acc → s'.heap.Ns C m → FpOk X pins H' C → RR (.ref acc) C (.ok .next) s') :
    wpAny (model X.prog X.w) X.A (newList []) (fun acc s3 => wpAny (model X.prog X.w) X.A (newFunctionEnv scope X.env.globals cl [] X.env.qual none .none (some X.env)) (fun cenv s4 =>
      codeAny (model X.prog X.w) X.A (.compStart (.ListComp elt [⟨tg, iter, ifs, 0⟩] scope pos) 0 (.ref it) acc { cenv with scope := relabel scope X.env }) (RR acc cenv.locals) s4) E s3) E s := by
  have n0 : H s.heap.objs.size = none := I.hok.fresh (Nat.le_refl _)
  have flt : ∀ b ∈ fp, b < s.heap.objs.size := fun b hb => by obtain ⟨o, e, _⟩ := T.obj 0 _ t0 b hb; exact Heap.lt_size e
  refine wpAny_newList ?_
  have I3 : Inv X pins σ (upd H s.heap.objs.size (accO s.heap.objs.size [])) { s with heap := s.heap.push { cls := .type "list", data := .seq ([] : List Value).toArray } } :=
    I.laid (t' := s.toks) (fun b o e => Heap.get?_push_of_some _ e) (Nat.le_refl _) (acc_of (show ObjOk X.prog X.w _ _ _ (.lst []) from ⟨Nat.zero_le _, [], 0, .nil, Heap.get?_push_size _ rfl⟩))
  have hf3 : ∀ b ∈ fp, FpOk X pins (upd H s.heap.objs.size (accO s.heap.objs.size [])) b := fun b hb => ⟨by rw [upd_ne (Nat.ne_of_lt (flt b hb))]; exact (hf b hb).1, (hf b hb).2⟩
  have t3 : tn 0 (s.heap.push { cls := .type "list", data := .seq ([] : List Value).toArray }) := T.keep _ _ _ t0 fun b _ o e => Heap.get?_push_of_some _ e
  specialize h s.heap.objs.size n0
  generalize hs3 : ({ s with heap := s.heap.push { cls := .type "list", data := .seq ([] : List Value).toArray } } : Shared) = s3 at I3 ⊢
  have t3' : tn 0 s3.heap := by rw [← hs3]; exact t3
  have lt3 : ∀ b ∈ fp, b < s3.heap.objs.size := fun b hb => by rw [← hs3]; exact Nat.lt_of_lt_of_le (flt b hb) (by rw [Heap.size_push]; exact Nat.le_succ _)
  generalize hH3 : upd H s.heap.objs.size (accO s.heap.objs.size []) = H3 at I3 hf3
  generalize hacc : s.heap.objs.size = acc at *
  refine wpAny_newFunctionEnv O.nc (by intro x hx; simp at hx) (fun h1 hns hsb => ?_) O.kind
  have hk : ∀ b o, s3.heap.get? b = some o → h1.get? b = some o := fun b o e => (hsb.2 b (Nat.ne_of_lt (Heap.lt_size e))).trans (Heap.get?_push_of_some _ e)
  have Ic : Inv (cxComp X pins (own ++ fr) scope cl fp s3 H3) [] (cSt own js σ) H3 { s3 with heap := h1, toks := s3.toks + 0 } := comp_start I3 O.kind O.nc O.clos O.frees hf3 lt3 hns hk
  obtain ⟨W, ⟨m0, w0⟩, turn⟩ := h pins fp s3 H3
  obtain ⟨hg, ht, he⟩ := hb pins fp s3 H3
  have stat : ∀ {H' : Hp} {ps : List (Addr × Obj)}, ps = [] → (∀ b ∈ fp, H' b = none) → ∀ b ∈ fp, FpOk (cxComp X pins (own ++ fr) scope cl fp s3 H3) ps H' b := fun {H' ps} hps hn b hb => by
    obtain ⟨f0, f1, f2, f3, f4, f5⟩ := hf3 b hb
    refine ⟨hn b hb, Nat.ne_of_lt (lt3 b hb), fun z => ?_, .inl hb, fun x c e => f4 x c (clos_sub _ _ _ O.clos (fun _ _ q => by simp at q) x c e), fun p hp => ?_⟩
    · rcases List.mem_cons.mp (I3.stkSub b z) with q | q
      · exact f1 q
      · exact f2 q
    · subst hps
      rcases List.mem_append.mp hp with q | q
      · exact f5 p q
      · simp at q
  have loop : ∀ {sx : Shared}, Inv (cxComp X pins (own ++ fr) scope cl fp s3 H3) [] (cSt own js σ) H3 sx → tn 0 sx.heap →
      codeAny (model X.prog X.w) X.A (.compLoop (.ListComp elt [⟨tg, iter, ifs, 0⟩] scope pos) 0 (.ref it) (.ref acc) (compEnvC scope cl s3.heap.objs.size X.env)) (RR (.ref acc) s3.heap.objs.size) sx := fun {sx} Jx tx => by
    refine comp_loop (fun n s' => ∃ i σc ys H', Inv (cxComp X pins (own ++ fr) scope cl fp s3 H3) [] σc H' s' ∧ tn i s'.heap ∧ (∀ b ∈ fp, H' b = none) ∧ H' acc = some (accO acc ys) ∧ W i n σc ys H') ?_ m0 ⟨0, _, [], H3, Jx, tx, fun b hb => (hf3 b hb).1, by rw [← hH3]; exact upd_same, by rw [← hH3]; exact w0⟩
    rintro n s4 ⟨i, σ4, ys, H4, I4, t4, fr4, a4, w4⟩
    rcases turn i n σ4 ys H4 w4 a4 with ⟨stop, qn⟩ | ⟨go, step⟩
    · refine thn (T.done (cxComp X pins (own ++ fr) scope cl fp s3 H3) rfl rfl rfl hcalm i [] s4 σ4 H4 NoX I4 (stat rfl fr4) t4 stop) fun r s5 ⟨hr, I5⟩ => ?_
      subst hr
      obtain ⟨m, hm, _⟩ := id I5.loc
      have IX := comp_back I3 hf3 I5
      have IL := IX.retrack (o' := .lst ys) a4 rfl fun H' => of_acc (H := H') (by obtain ⟨p1, p2, p3⟩ := IX.hok acc _ a4; exact ⟨p1, p2, p3⟩)
      refine fin acc s3.heap.objs.size _ s5 m IL qn hm (I3.fpOk (Nat.le_refl _) ?_)
      have c4 : H4 s3.heap.objs.size = none := I5.free
      rw [upd_ne (fun z => by rw [z, a4] at c4; cases c4)]; exact c4
    · refine thn (T.item (cxComp X pins (own ++ fr) scope cl fp s3 H3) rfl rfl rfl hcalm i [] s4 σ4 H4 NoX I4 (stat rfl fr4) t4 go) fun r s5 ⟨u, hr, q5⟩ => ?_
      subst hr
      refine thn q5 fun _ s6 ⟨x, H6, I6, r6, y6, t6, fr6⟩ => ?_
      have I6' := I6.pinned (stat rfl fr6) (T.obj _ _ t6)
      refine thn (hg _ s6 σ4 H6 x u _ I6' r6 (step x H6 y6)) fun _ s7 ⟨σ7, H7, I7, q7⟩ => ?_
      refine thn (tests_ok ifs _ s7 H7 ht I7 q7) fun ok s8 ⟨H8, I8, q8⟩ => ?_
      have again : ∀ {σ9 : St} {H9 : Hp} {s9 : Shared} {zs : List V} {m : Nat}, Inv (cxComp X pins (own ++ fr) scope cl fp s3 H3) ([] ++ pinsAt fp s6.heap) σ9 H9 s9 → H9 acc = some (accO acc zs) → m < n → W (i + 1) m σ9 zs H9 →
          ∃ m, m < n ∧ ∃ i σc ys H', Inv (cxComp X pins (own ++ fr) scope cl fp s3 H3) [] σc H' s9 ∧ tn i s9.heap ∧ (∀ b ∈ fp, H' b = none) ∧ H' acc = some (accO acc ys) ∧ W i m σc ys H' := fun {σ9 H9 s9 zs m} I9 a9 hm w9 => by
        refine ⟨m, hm, i + 1, σ9, zs, H9, I9.unpinned, T.keep _ _ _ t6 fun b hb o e => (I9.pin (b, o) (List.mem_append_right _ (List.mem_append_right _ (mem_pinsAt hb e)))).1, fun b hb => ?_, a9, w9⟩
        obtain ⟨o, e, d⟩ := T.obj _ _ t6 b hb
        exact (I9.pin (b, o) (List.mem_append_right _ (List.mem_append_right _ (mem_pinsAt hb e)))).2.1
      cases ok with
      | false =>
        obtain ⟨a8, m', hm, w8⟩ := (show H8 acc = some (accO acc ys) ∧ ∃ m', m' < n ∧ W (i + 1) m' σ7 ys H8 by simpa using q8)
        exact again I8 a8 hm w8
      | true =>
        have q8' : te pins fp s3 H3 σ7 H8 fun y H4 => H4 acc = some (accO acc ys) ∧ ys.length < sizeLine ∧ ∃ m', m' < n ∧ W (i + 1) m' σ7 (ys ++ [y]) (upd H4 acc (accO acc (ys ++ [y]))) := by simpa using q8
        refine thn (he _ s8 σ7 H8 _ I8 q8') fun v s9 ⟨y, H9, I9, r9, a9, hl, m', hm, w9⟩ => ?_
        have IL := I9.retrack (o' := .lst ys) a9 rfl fun H' => of_acc (H := H') (by obtain ⟨p1, p2, p3⟩ := I9.hok acc _ a9; exact ⟨p1, p2, p3⟩)
        refine thn (mt_append _ s9 σ7 _ (.ref acc) [y] (.ref acc) [v] (fun _ H' => H' = upd H9 acc (.lst (ys ++ [y]))) IL rfl (.cons r9 .nil) ⟨acc, ys, y, rfl, rfl, upd_same, hl, by rw [upd_upd]⟩) fun _ s10 ⟨_, H10, I10, _, e10⟩ => ?_
        subst e10
        have I11 := I10.retrack (o' := accO acc (ys ++ [y])) upd_same rfl fun H' => acc_of (H := H') (by obtain ⟨p1, p2, p3⟩ := I10.hok acc _ upd_same; exact ⟨p1, p2, p3⟩)
        rw [upd_upd] at I11
        exact again I11 upd_same hm w9
  exact codeAny_compStart_list (loop Ic (T.keep _ _ _ t3' fun b _ o e => hk b o e)) (T.self _ 0 _ _ _ (T.keep _ _ _ t3' fun b _ o e => hk b o e) (loop Ic (T.keep _ _ _ t3' fun b _ o e => hk b o e)))
theorem pe_comp {elt tg iter : Expr} {ifs : List Expr} {scope : Scope} {pos : Pos} {cl : List (Str × Addr)} (own fr : List Str) (js : List Nat) {wi : TI} {g : CA TG} {ts : CA (List TT)} {te : CA TE}
    (hcalm : X.calm = true) (O : CompOk X scope cl own fr js) (hi : PI X tg iter wi)
    (hb : ∀ pins fp s Hc, PG (cxComp X pins (own ++ fr) scope cl fp s Hc) tg (g pins fp s Hc) ∧ PTs (cxComp X pins (own ++ fr) scope cl fp s Hc) ifs (ts pins fp s Hc) ∧ PE (cxComp X pins (own ++ fr) scope cl fp s Hc) elt (te pins fp s Hc))
    (hs : ∀ x, foldedSetIterable iter X.env x = pure x := by intro _; rfl) :
    PE X (.ListComp elt [⟨tg, iter, ifs, 0⟩] scope pos) (tComp wi own js g ts te) := by
  intro pins s σ H Q I h
  rw [eval_ListComp]
  refine wpAny_comprehension_free (use := none) rfl hs (closureFor_of O.clos) O.kind O.nl (thn (hi pins s σ H _ I h) fun xv s1 q1 => thn q1 fun itv s2 q2 => ?_)
  obtain ⟨it, fp, tn, J, H2, rfl, I2, T, t2, f2, q⟩ := q2
  refine comp_core (RR := fun acc C => compPost (model X.prog X.w) X.A X.xe none (EP X pins σ Q) acc C) O hcalm hb I2 T t2 f2 q fun acc C H' s' m I' r' hm hC => ⟨m, hm, fun h' sb => ?_⟩
  obtain ⟨f0, f1, f2, f3, f4, f5⟩ := hC
  exact ⟨.ref acc, H', I'.turned (t' := s'.toks) (fun b o hb e => (sb.2 b hb).trans e) f0 f1 f3 f4 f5, rfl, r'⟩
theorem ps_setComp {i : Nat} {x : Str} {elt tg iter : Expr} {ifs : List Expr} {scope : Scope} {pos pos' spos : Pos} {cl : List (Str × Addr)} (own fr : List Str) (js : List Nat) {wi : TI} {g : CA TG} {ts : CA (List TT)} {te : CA TE}
    (hN : X.N.Nodup) (hix : X.N[i]? = some x) (hx : Loc X.env.scope x) (hcalm : X.calm = true) (O : CompOk X scope cl own fr js) (hi : PI X tg iter wi)
    (hb : ∀ pins fp s Hc, PG (cxComp X pins (own ++ fr) scope cl fp s Hc) tg (g pins fp s Hc) ∧ PTs (cxComp X pins (own ++ fr) scope cl fp s Hc) ifs (ts pins fp s Hc) ∧ PE (cxComp X pins (own ++ fr) scope cl fp s Hc) elt (te pins fp s Hc))
    (hsw : swapsWith (.ListComp elt [⟨tg, iter, ifs, 0⟩] scope pos) (some (.Name x pos')) spos.line X.env = pure true := by rfl)
    (hs : ∀ x, foldedSetIterable iter X.env x = pure x := by intro _; rfl) (hf : X.fn x = true ∨ X.env.scope.names.lookup x = some .local := by first | exact .inl rfl | exact .inr rfl | assumption) :
    PS X (.Assign [.Name x pos'] (.ListComp elt [⟨tg, iter, ifs, 0⟩] scope pos) spos) (tAsg (tComp wi own js g ts te) (gName i)) := by
  intro pins s σ H D I h
  rw [exec_Assign_Name_used _ _ _ _ hsw]
  refine wpAny_bind (wpAny_standAt (wpAny_bind ?_))
  show wpAny _ _ (comprehension (.ListComp elt [⟨tg, iter, ifs, 0⟩] scope pos) scope X.env (firstIterPos [⟨tg, iter, ifs, 0⟩] pos) (newList []) false (eval iter X.env) (some (assign (.Name x pos') X.env)) >>= _) _ _ _
  refine wpAny_bind ?_
  have h' : wi σ H fun J H1 => ∀ acc, H1 acc = none → ∀ pins fp s Hc, rComp J (g pins fp s Hc) (ts pins fp s Hc) (te pins fp s Hc) acc (cSt own js σ) H1 fun H' => D.nx (σ.set i (some (.ref acc))) H' := h
  refine wpAny_comprehension_free (use := some (assign (.Name x pos') X.env)) rfl hs (closureFor_of O.clos) O.kind O.nl (thn (hi pins s σ H _ I h') fun xv s1 q1 => thn q1 fun itv s2 q2 => ?_)
  obtain ⟨it, fp, tn, J, H2, rfl, I2, T, t2, f2, q⟩ := q2
  refine comp_core (RR := fun acc C => compPost (model X.prog X.w) X.A X.xe (some (assign (.Name x pos') X.env)) _ acc C) O hcalm hb I2 T t2 f2 q fun acc C H' s' m I' r' hm hC => ?_
  obtain ⟨f0, f1, f2, f3, f4, f5⟩ := hC
  obtain ⟨oc, es, ep, ho, hd, hr⟩ := id hm
  have IP : Inv X (pins ++ [(C, oc)]) σ H' s' := I'.pins_of fun p hp => by
    rcases List.mem_append.mp hp with q | q
    · exact I'.pin p (List.mem_append_right _ q)
    · obtain rfl : p = (C, oc) := by simpa using q
      exact ⟨ho, f0, f1, f2, fun v z => by rw [hd] at z; cases z⟩
  refine wpAny_assign_Name (store_ok IP hN hix hx (v := .ref acc) (u := .ref acc) rfl (fun s'' I'' => ?_) hf)
  have hC'' := (I''.pin (C, oc) (List.mem_append_right _ (List.mem_append_right _ (by simp)))).1
  refine ⟨m, ⟨oc, es, ep, hC'', hd, hr⟩, fun h' sb => ?_⟩
  exact wpAny_pure (wpAny_pure ⟨_, H', (I''.unpinned).turned (t' := s''.toks) (fun b o hb e => (sb.2 b hb).trans e) f0 f1 f3 f4 f5, r'⟩)
end
section
variable {K : PySem.W.Frag} {ts : List TT} {te : TE} {acc : Addr} {fr : St} {H1 : Hp} {R : Hp → Prop} {xs ys : List V}
theorem r_comp {wi : TI} {own : List Str} {js : List Nat} {g : CA TG} {ts : CA (List TT)} {te : CA TE} {σ : St} {H : Hp} {Q : VK} (q : wi σ H fun J H1 => ∀ acc, H1 acc = none → ∀ pins fp s Hc, rComp J (g pins fp s Hc) (ts pins fp s Hc) (te pins fp s Hc) acc (cSt own js σ) H1 fun H' => Q (.ref acc) H') : tComp wi own js g ts te σ H Q := q
def Turned (ts : List TT) (te : TE) (Pv : List V → Hp → Prop) (ys : List V) (H : Hp) (σ2 : St) (H2 : Hp) : Prop :=
  ∀ (Y : V → Hp → Prop) (N : Hp → Prop), (∀ y H', Ext H H' → Pv (ys ++ [y]) H' → Y y H') → (∀ H', Ext H H' → Pv ys H' → N H') → tTests ts σ2 H2 fun b H3 => if b = true then te σ2 H3 Y else N H3
theorem comp_gen {J : It} {g : TG} {σ0 : St} (n : Nat) (hz : n ≤ 1000000) (hn : H1 acc = none) (Sv : St → Prop) (Pv : Nat → List V → Hp → Prop) (s0 : Sv σ0) (h0 : Pv 0 [] H1) (kp : ∀ i ys H H', Kp H H' → Pv i ys H → Pv i ys H')
    (hgo : ∀ i H, i < n → Ext H1 H → J.go i H) (hst : ∀ H, Ext H1 H → J.stop n H) (len : ∀ i ys H, i ≤ n → Pv i ys H → ys.length ≤ i)
    (turn : ∀ i σ ys H x H' (G : St → Hp → Prop), i < n → Ext H1 H → Sv σ → Pv i ys H → J.yld i H x H' → (∀ σ2 H2, Sv σ2 → Turned ts te (Pv (i + 1)) ys H σ2 H2 → G σ2 H2) → g x σ H' G)
    (fin : ∀ ys H, Ext H1 H → H acc = some (.lst ys) → Pv n ys H → R H) : rComp J g ts te acc σ0 H1 R := by
  have e0 : Ext H1 (upd H1 acc (accO acc [])) := ext_upd hn
  refine ⟨fun i m σ ys H => m = n - i ∧ i ≤ n ∧ Ext H1 H ∧ Sv σ ∧ Pv i ys H, ⟨n, by omega, Nat.zero_le _, e0, s0, kp _ _ _ _ e0.kp h0⟩, ?_⟩
  rintro i m σ ys H ⟨rfl, hi, e, sv, pv⟩ ha
  by_cases hlt : i < n
  · refine .inr ⟨hgo i H hlt e, fun x H' y => turn i σ ys H x H' _ hlt e sv pv y fun σ2 H2 s2 q2 => ?_⟩
    refine q2 _ _ (fun y H4 e4 p4 => ?_) fun H3 e3 p3 => ?_
    · have a4 : H4 acc = some (accO acc ys) := e4 _ _ ha
      have z : ys.length < sizeLine := by have := len _ _ _ hi pv; rw [sizeLine_eq]; omega
      refine ⟨a4, z, n - (i + 1), by omega, rfl, hlt, fun b o hb => ?_, s2, kp _ _ _ _ (kp_upd a4 rfl) p4⟩
      rw [upd_ne (ne_of_none hb hn)]
      exact e4 _ _ (e _ _ hb)
    · exact ⟨e3 _ _ ha, n - (i + 1), by omega, rfl, hlt, e.tr e3, s2, p3⟩
  · have hn' : i = n := by omega
    subst hn'
    refine .inl ⟨hst H e, fin ys _ (fun b o hb => ?_) upd_same (kp _ _ _ _ (kp_upd ha rfl) pv)⟩
    rw [upd_ne (ne_of_none hb hn)]
    exact e _ _ hb
theorem comp_list {a : Addr} {u : Option V} (hx : SqL K H1 a xs) (hz : xs.length ≤ 1000000) (hn : H1 acc = none) (Pv : Nat → List V → Hp → Prop) (h0 : Pv 0 [] H1) (kp : ∀ i ys H H', Kp H H' → Pv i ys H → Pv i ys H') (len : ∀ i ys H, i ≤ xs.length → Pv i ys H → ys.length ≤ i)
    (turn : ∀ i x ys H, xs[i]? = some x → Ext H1 H → Pv i ys H → Turned ts te (Pv (i + 1)) ys H (some x :: fr) H)
    (fin : ∀ ys H, Ext H1 H → H acc = some (.lst ys) → Pv xs.length ys H → R H) : rComp (Itl K a) (gName 0) ts te acc (u :: fr) H1 R := by
  refine comp_gen xs.length hz hn (fun σ => ∃ u, σ = u :: fr) Pv ⟨u, rfl⟩ h0 kp (fun i H hi e => ⟨xs, xs[i], e.seqL hx, List.getElem?_eq_getElem hi⟩) (fun H e => ⟨xs, e.seqL hx, Nat.le_refl _⟩) len ?_ fin
  rintro i σ ys H x H' G hi e ⟨u, rfl⟩ pv ⟨rfl, y⟩ hG
  have := y xs (e.seqL hx)
  exact hG _ _ ⟨some x, rfl⟩ (turn i x ys _ this e pv)
theorem comp_tup {a : Addr} {u : Option V} (hx : SqT K H1 a xs) (hz : xs.length ≤ 1000000) (hn : H1 acc = none) (Pv : Nat → List V → Hp → Prop) (h0 : Pv 0 [] H1) (kp : ∀ i ys H H', Kp H H' → Pv i ys H → Pv i ys H') (len : ∀ i ys H, i ≤ xs.length → Pv i ys H → ys.length ≤ i)
    (turn : ∀ i x ys H, xs[i]? = some x → Ext H1 H → Pv i ys H → Turned ts te (Pv (i + 1)) ys H (some x :: fr) H)
    (fin : ∀ ys H, Ext H1 H → H acc = some (.lst ys) → Pv xs.length ys H → R H) : rComp (Itt K a) (gName 0) ts te acc (u :: fr) H1 R := by
  refine comp_gen xs.length hz hn (fun σ => ∃ u, σ = u :: fr) Pv ⟨u, rfl⟩ h0 kp (fun i H hi e => ⟨xs, xs[i], e.seqT hx, List.getElem?_eq_getElem hi⟩) (fun H e => ⟨xs, e.seqT hx, Nat.le_refl _⟩) len ?_ fin
  rintro i σ ys H x H' G hi e ⟨u, rfl⟩ pv ⟨rfl, y⟩ hG
  have := y xs (e.seqT hx)
  exact hG _ _ ⟨some x, rfl⟩ (turn i x ys _ this e pv)
theorem comp_range {lo : Int} {n : Nat} {u : Option V} (hz : n ≤ 1000000) (hn : H1 acc = none) (Pv : Nat → List V → Hp → Prop) (h0 : Pv 0 [] H1) (kp : ∀ i ys H H', Kp H H' → Pv i ys H → Pv i ys H') (len : ∀ i ys H, i ≤ n → Pv i ys H → ys.length ≤ i)
    (turn : ∀ i ys H, i < n → Ext H1 H → Pv i ys H → Turned ts te (Pv (i + 1)) ys H (some (.int (lo + i)) :: fr) H)
    (fin : ∀ ys H, Ext H1 H → H acc = some (.lst ys) → Pv n ys H → R H) : rComp (Itr lo n) (gName 0) ts te acc (u :: fr) H1 R := by
  refine comp_gen n hz hn (fun σ => ∃ u, σ = u :: fr) Pv ⟨u, rfl⟩ h0 kp (fun i H hi e => hi) (fun H e => Nat.le_refl _) len ?_ fin
  rintro i σ ys H x H' G hi e ⟨u, rfl⟩ pv ⟨rfl, rfl⟩ hG
  exact hG _ _ ⟨_, rfl⟩ (turn i ys _ hi e pv)
end
def ItA (b : Bool) (h : Heap) (it l : Addr) (k : Nat) : Prop := match b with | false => h.IsListIter it l k | true => h.IsTupleIter it l k
def SqA (b : Bool) (h : Heap) (l : Addr) (xs : Array Value) : Prop := match b with | false => h.IsList l xs | true => h.IsTuple l xs
theorem ItA.ex {b : Bool} {h : Heap} {it l : Addr} {k : Nat} (x : ItA b h it l k) : ∃ o, h.get? it = some o ∧ ∀ v, o.data ≠ .cell v := by
  cases b <;> (obtain ⟨o, e, _, d⟩ := x; exact ⟨o, e, fun v z => by rw [d] at z; cases z⟩)
theorem ItA.at {b : Bool} {h h' : Heap} {it l : Addr} {k : Nat} (x : ItA b h it l k) (f : ∀ o, h.get? it = some o → h'.get? it = some o) : ItA b h' it l k := by
  cases b <;> (obtain ⟨o, e, r⟩ := x; exact ⟨o, f o e, r⟩)
theorem SqA.at {b : Bool} {h h' : Heap} {l : Addr} {xs : Array Value} (x : SqA b h l xs) (f : ∀ o, h.get? l = some o → h'.get? l = some o) : SqA b h' l xs := by
  cases b <;> (obtain ⟨o, e, r⟩ := x; exact ⟨o, f o e, r⟩)
theorem SqA.lt {b : Bool} {h : Heap} {l : Addr} {xs : Array Value} (x : SqA b h l xs) : l < h.objs.size := by
  cases b <;> (obtain ⟨o, e, _⟩ := x; exact Heap.lt_size e)
theorem ItA.lt {b : Bool} {h : Heap} {it l : Addr} {k : Nat} (x : ItA b h it l k) : it < h.objs.size := by
  obtain ⟨o, e, _⟩ := x.ex; exact Heap.lt_size e
section
variable {prog : Program} {w : World} {A : Around} {E : Value → Shared → Prop} {s : Shared}
theorem nextT_item {it l : Addr} {k : Nat} {xs : Array Value} {x : Value} {Q : Value → Shared → Prop} (i0 : s.heap.IsTupleIter it l k) (l0 : s.heap.IsTuple l xs) (hx : xs[k]? = some x)
    (q : ∀ h', h'.IsTupleIter it l (k + 1) → Heap.SameBut it s.heap h' → Q x { s with heap := h' }) : wpAny (model prog w) A (Builtin.SmallTypes.nextOf (.ref it)) Q E s := by
  obtain ⟨oi, ei, ci, di⟩ := id i0
  obtain ⟨ol, el, _, nl, dl⟩ := l0
  unfold Builtin.SmallTypes.nextOf
  refine wpAny_bind (wpAny_callSpecial?_slot (name := Str.ofString "__next__") i0.typeIs F.slot_tuple_iterator_next (wpAny_call_entry F.slot_tuple_iterator_next i0.typeIs F.entry_tuple_iterator_next ?_ (F.args_tuple_iterator_next_1 _)))
  show wpAny _ _ (field (.ref it) 0 >>= _) _ _ _; refine wpAny_bind (wpAny_field ei di (x := .ref l) rfl ?_)
  show wpAny _ _ (if (Value.ref l == Value.none) = true then _ else _) _ _ _; rw [if_neg (show ¬ ((Value.ref l == Value.none) = true) from fun z => Bool.false_ne_true z)]
  show wpAny _ _ (field (.ref it) 1 >>= _) _ _ _; refine wpAny_bind (wpAny_field ei di (x := .int k 0) rfl ?_)
  show wpAny _ _ (seqItems? (.ref l) >>= _) _ _ _; refine wpAny_bind (wpAny_seqItems el dl ?_)
  simp only [Int.toNat_natCast, hx]; refine wpAny_bind (wpAny_setField ei di (by simp) (wpAny_pure ⟨x, rfl, wpAny_pure (q _ ⟨_, Heap.get?_update_self _ ei (Obj.isFreed_of_fields (Obj.data_mapFields di _)), (Obj.cls_mapFields ..).trans ci, ?_⟩ (Heap.SameBut.update ..))⟩))
  rw [Obj.data_mapFields di]; simp [rawInt]
theorem nextT_end {it l : Addr} {k : Nat} {xs : Array Value} {Q : Value → Shared → Prop} (hh : A.handled = none) (i0 : s.heap.IsTupleIter it l k) (l0 : s.heap.IsTuple l xs) (hx : xs[k]? = none)
    (q : ∀ h' e, Heap.ExtBut it s.heap h' → (∃ o, h'.get? e = some o ∧ o.cls = .type "StopIteration") → E (.ref e) { s with heap := h' }) : wpAny (model prog w) A (Builtin.SmallTypes.nextOf (.ref it)) Q E s := by
  obtain ⟨oi, ei, ci, di⟩ := id i0
  obtain ⟨ol, el, _, nl, dl⟩ := l0
  unfold Builtin.SmallTypes.nextOf
  refine wpAny_bind (wpAny_callSpecial?_slot (name := Str.ofString "__next__") i0.typeIs F.slot_tuple_iterator_next (wpAny_call_entry F.slot_tuple_iterator_next i0.typeIs F.entry_tuple_iterator_next ?_ (F.args_tuple_iterator_next_1 _)))
  show wpAny _ _ (field (.ref it) 0 >>= _) _ _ _; refine wpAny_bind (wpAny_field ei di (x := .ref l) rfl ?_)
  show wpAny _ _ (if (Value.ref l == Value.none) = true then _ else _) _ _ _; rw [if_neg (show ¬ ((Value.ref l == Value.none) = true) from fun z => Bool.false_ne_true z)]
  show wpAny _ _ (field (.ref it) 1 >>= _) _ _ _; refine wpAny_bind (wpAny_field ei di (x := .int k 0) rfl ?_)
  show wpAny _ _ (seqItems? (.ref l) >>= _) _ _ _; refine wpAny_bind (wpAny_seqItems el dl ?_)
  simp only [Int.toNat_natCast, hx]; refine wpAny_bind (wpAny_rule (wpAny_bind (wpAny_setField ei di (by simp) ?_)))
  show wpAny _ _ (newExc (.type "StopIteration") [] >>= _) _ _ _; refine wpAny_bind ?_; simp only [newExc, newTuple]
  refine wpAny_bind (wpAny_newObj_type ?_ (by size_fits)); refine wpAny_bind (m := firstArgMember _ _) (wpAny_of_eq (a := Value.none) (by first | rfl | (simp only [firstArgMember]; rfl)) ?_)
  refine wpAny_newObj_type ?_ (by size_fits); simp only [raiseNew]; refine wpAny_bind (wpAny_handled ?_)
  first | rw [show A.in1.handled = none from hh] | rw [hh]
  refine wpAny_bind (wpAny_pure (wpAny_throw ?_)); exact q _ _ (((Heap.SameBut.update ..).extBut.push _).push _) ⟨_, Heap.get?_push_size _ rfl, rfl⟩
theorem nextA_item {b : Bool} {it l : Addr} {k : Nat} {xs : Array Value} {x : Value} {Q : Value → Shared → Prop} (i0 : ItA b s.heap it l k) (l0 : SqA b s.heap l xs) (hx : xs[k]? = some x)
    (q : ∀ h', ItA b h' it l (k + 1) → Heap.SameBut it s.heap h' → Q x { s with heap := h' }) : wpAny (model prog w) A (Builtin.SmallTypes.nextOf (.ref it)) Q E s := by
  cases b
  · exact wpAny_nextOf_list_item i0 l0 hx q
  · exact nextT_item i0 l0 hx q
theorem nextA_end {b : Bool} {it l : Addr} {k : Nat} {xs : Array Value} {Q : Value → Shared → Prop} (hh : A.handled = none) (i0 : ItA b s.heap it l k) (l0 : SqA b s.heap l xs) (hx : xs[k]? = none)
    (q : ∀ h' e, Heap.ExtBut it s.heap h' → (∃ o, h'.get? e = some o ∧ o.cls = .type "StopIteration") → E (.ref e) { s with heap := h' }) : wpAny (model prog w) A (Builtin.SmallTypes.nextOf (.ref it)) Q E s := by
  cases b
  · exact wpAny_nextOf_list_end hh i0 l0 hx q
  · exact nextT_end hh i0 l0 hx q
theorem zipA_item {c d : Bool} {z TI TO i1 i2 l1 l2 : Addr} {k : Nat} {xs ys : Array Value} {x y p q : Value} {Q : Option Value → Shared → Prop} (D : ZipApart z TI TO i1 i2 l1 l2)
    (hz : IsZip s.heap z TI TO .none) (hI : IsPair s.heap TI (.ref i1) (.ref i2)) (hO : IsPair s.heap TO p q) (a1 : ItA c s.heap i1 l1 k) (a2 : ItA d s.heap i2 l2 k) (b1 : SqA c s.heap l1 xs) (b2 : SqA d s.heap l2 ys) (hx : xs[k]? = some x) (hy : ys[k]? = some y)
    (hQ : ∀ h', IsZip h' z TI TO (rawInt s.heap.objs.size) → IsPair h' TO x y → ItA c h' i1 l1 (k + 1) → ItA d h' i2 l2 (k + 1) → IsPair h' s.heap.objs.size x y →
      (∀ e o, e ≠ z → e ≠ TO → e ≠ i1 → e ≠ i2 → s.heap.get? e = some o → h'.get? e = some o) → Q (some (.ref s.heap.objs.size)) { s with heap := h' }) : wpAny (model prog w) A (pyNext (.ref z)) Q E s := by
  have tz : s.TypeIs (.ref z) "zip" := ⟨_, hz, rfl⟩
  unfold pyNext
  refine wpAny_bind (wpAny_attempt (wpAny_callSpecial?_slot (name := Str.ofString "__next__") tz F.slot_zip_next (wpAny_call_entry F.slot_zip_next tz F.entry_zip_next ?_ (F.args_zip_next_1 _))))
  show wpAny _ _ (field (.ref z) 2 >>= _) _ _ _; refine wpAny_bind (wpAny_field hz rfl (x := .bool false) rfl ?_)
  show wpAny _ _ (field (.ref z) 3 >>= _) _ _ _; refine wpAny_bind (wpAny_field hz rfl (x := .ref TI) rfl (wpAny_bind (wpAny_seqItems hI rfl ?_)))
  show wpAny _ _ (Builtin.SmallTypes.ownedTupleIsFree (.ref z) >>= _) _ _ _; refine wpAny_bind ?_; unfold Builtin.SmallTypes.ownedTupleIsFree
  refine wpAny_bind (wpAny_field hz rfl (x := .none) rfl (wpAny_pure ?_)); simp only [if_true]
  refine wpAny_bind (wpAny_rule (wpAny_bind (wpAny_field hz rfl (x := .ref TO) rfl (wpAny_bind (wpAny_setField_rec hz (by simp) fun g1 z1 s1 => ?_)))))
  replace z1 : IsZip g1 z TI TO .ellipsis := z1
  refine wpAny_bind ?_; simp only [List.zipIdx_cons, List.zipIdx_nil, List.forIn_cons, List.forIn_nil]
  refine wpAny_bind (wpAny_bind (wpAny_onRaise ?_))
  show wpAny _ _ (Builtin.SmallTypes.nextOf (.ref i1) >>= _) _ _ _
  refine wpAny_bind (nextA_item (a1.at fun o e => s1.extBut _ o D.i1z e) (b1.at fun o e => s1.extBut _ o D.l1z e) hx fun g2 j1 s2 => wpAny_pure ?_)
  have o2 : IsPair g2 TO p q := s2.extBut _ _ D.TOi1 (s1.extBut _ _ D.TOz hO)
  refine wpAny_bind (wpAny_seqItems o2 rfl (wpAny_bind (wpAny_updateSeq_pair o2 fun g3 o3 s3 => wpAny_bind (wpAny_letGo (wpAny_pure ?_)))))
  replace o3 : IsPair g3 TO x q := o3
  refine wpAny_bind (wpAny_bind (wpAny_onRaise ?_))
  show wpAny _ _ (Builtin.SmallTypes.nextOf (.ref i2) >>= _) _ _ _
  refine wpAny_bind (nextA_item (a2.at fun o e => s3.extBut _ o D.TOi2.symm (s2.extBut _ o D.i12.symm (s1.extBut _ o D.i2z e))) (b2.at fun o e => s3.extBut _ o D.l2TO (s2.extBut _ o D.l2i1 (s1.extBut _ o D.l2z e))) hy fun g4 j2 s4 => wpAny_pure ?_)
  have o4 : IsPair g4 TO x q := s4.extBut _ _ D.TOi2 o3
  refine wpAny_bind (wpAny_seqItems o4 rfl (wpAny_bind (wpAny_updateSeq_pair o4 fun g5 o5 s5 => wpAny_bind (wpAny_letGo (wpAny_pure (wpAny_pure ?_))))))
  replace o5 : IsPair g5 TO x y := o5
  refine wpAny_bind (wpAny_seqItems o5 rfl (wpAny_bind (wpAny_newTuple ?_)))
  have n5 : g5.objs.size = s.heap.objs.size := by rw [s5.1, s4.1, s3.1, s2.1, s1.1]
  have z5 : IsZip g5 z TI TO .ellipsis := s5.extBut _ _ D.TOz.symm (s4.extBut _ _ D.i2z.symm (s3.extBut _ _ D.TOz.symm (s2.extBut _ _ D.i1z.symm z1)))
  have k5 : ∀ e o, e ≠ z → e ≠ TO → e ≠ i1 → e ≠ i2 → s.heap.get? e = some o → g5.get? e = some o := fun e o q1 q2 q3 q4 h => s5.extBut _ _ q2 (s4.extBut _ _ q4 (s3.extBut _ _ q2 (s2.extBut _ _ q3 (s1.extBut _ _ q1 h))))
  have j5 : ItA c g5 i1 l1 (k + 1) := j1.at fun o e => s5.extBut _ o D.TOi1.symm (s4.extBut _ o D.i12 (s3.extBut _ o D.TOi1.symm e))
  have m5 : ItA d g5 i2 l2 (k + 1) := j2.at fun o e => s5.extBut _ o D.TOi2.symm e
  have lz : z < g5.objs.size := Heap.lt_size z5
  show wpAny _ _ (Builtin.SmallTypes.ownedTupleHandOut (.ref z) (.ref g5.objs.size) >>= _) _ _ _; refine wpAny_bind ?_; unfold Builtin.SmallTypes.ownedTupleHandOut
  have z6 : IsZip (g5.push { cls := .type "tuple", data := .seq #[x, y] }) z TI TO .ellipsis := Heap.get?_push_of_some _ z5
  refine wpAny_bind (wpAny_setField_rec z6 (by simp) fun g7 z7 s7 => ?_)
  replace z7 : IsZip g7 z TI TO (rawInt g5.objs.size) := z7
  refine wpAny_setField_rec z7 (by simp) fun g8 z8 s8 => ?_
  replace z8 : IsZip g8 z TI TO (rawInt g5.objs.size) := z8
  have k8 : ∀ e o, e ≠ z → g5.get? e = some o → g8.get? e = some o := fun e o q1 h => s8.extBut _ _ q1 (s7.extBut _ _ q1 (Heap.get?_push_of_some _ h))
  have t8 : IsPair g8 g5.objs.size x y := s8.extBut _ _ (Nat.ne_of_gt lz) (s7.extBut _ _ (Nat.ne_of_gt lz) (Heap.get?_push_size _ rfl))
  refine wpAny_pure ⟨_, rfl, wpAny_pure ?_⟩
  rw [n5] at z8 t8
  show Q (some (.ref g5.objs.size)) _
  rw [n5]
  exact hQ g8 z8 (k8 _ _ D.TOz o5) (j5.at fun o e => k8 _ o D.i1z e) (m5.at fun o e => k8 _ o D.i2z e) t8 fun e o q1 q2 q3 q4 h => k8 e o q1 (k5 e o q1 q2 q3 q4 h)
theorem zipA_end {c d : Bool} {z TI TO i1 i2 l1 l2 : Addr} {k : Nat} {xs ys : Array Value} {p q : Value} {Q : Option Value → Shared → Prop} (hh : A.handled = none) (D : ZipApart z TI TO i1 i2 l1 l2)
    (hz : IsZip s.heap z TI TO .none) (hI : IsPair s.heap TI (.ref i1) (.ref i2)) (hO : IsPair s.heap TO p q) (a1 : ItA c s.heap i1 l1 k) (a2 : ItA d s.heap i2 l2 k) (b1 : SqA c s.heap l1 xs) (b2 : SqA d s.heap l2 ys) (hend : xs[k]? = none ∨ ys[k]? = none)
    (hQ : ∀ h', (∀ e o, e ≠ z → e ≠ TO → e ≠ i1 → e ≠ i2 → s.heap.get? e = some o → h'.get? e = some o) → Q none { s with heap := h' }) : wpAny (model prog w) A (pyNext (.ref z)) Q E s := by
  have tz : s.TypeIs (.ref z) "zip" := ⟨_, hz, rfl⟩
  have stopped : ∀ {h' : Heap} {e : Addr}, (∃ o, h'.get? e = some o ∧ o.cls = .type "StopIteration") → (∀ e o, e ≠ z → e ≠ TO → e ≠ i1 → e ≠ i2 → s.heap.get? e = some o → h'.get? e = some o) →
      wpAny (model prog w) A (do if ← isInstance (.ref e) (.type "StopIteration") then pure (none : Option Value) else throw (.ref e)) Q E { s with heap := h' } := fun {h' e} ⟨o, ho, hc⟩ hk =>
    wpAny_bind (wpAny_isInstance (T := "StopIteration") (b := true) ⟨o, ho, hc⟩ isSubtype_stop (wpAny_pure (hQ _ hk)))
  unfold pyNext
  refine wpAny_bind (wpAny_attempt (wpAny_callSpecial?_slot (name := Str.ofString "__next__") tz F.slot_zip_next (wpAny_call_entry F.slot_zip_next tz F.entry_zip_next ?_ (F.args_zip_next_1 _))))
  show wpAny _ _ (field (.ref z) 2 >>= _) _ _ _; refine wpAny_bind (wpAny_field hz rfl (x := .bool false) rfl ?_)
  show wpAny _ _ (field (.ref z) 3 >>= _) _ _ _; refine wpAny_bind (wpAny_field hz rfl (x := .ref TI) rfl (wpAny_bind (wpAny_seqItems hI rfl ?_)))
  show wpAny _ _ (Builtin.SmallTypes.ownedTupleIsFree (.ref z) >>= _) _ _ _; refine wpAny_bind ?_; unfold Builtin.SmallTypes.ownedTupleIsFree
  refine wpAny_bind (wpAny_field hz rfl (x := .none) rfl (wpAny_pure ?_)); simp only [if_true]
  refine wpAny_bind (wpAny_rule (wpAny_bind (wpAny_field hz rfl (x := .ref TO) rfl (wpAny_bind (wpAny_setField_rec hz (by simp) fun g1 z1 s1 => ?_)))))
  replace z1 : IsZip g1 z TI TO .ellipsis := z1
  refine wpAny_bind ?_; simp only [List.zipIdx_cons, List.zipIdx_nil, List.forIn_cons, List.forIn_nil]
  refine wpAny_bind (wpAny_bind (wpAny_onRaise ?_))
  show wpAny _ _ (Builtin.SmallTypes.nextOf (.ref i1) >>= _) _ _ _
  cases hx : xs[k]? with
  | none =>
    refine wpAny_bind (nextA_end hh (a1.at fun o e => s1.extBut _ o D.i1z e) (b1.at fun o e => s1.extBut _ o D.l1z e) hx fun g2 e s2 ⟨oe, he, ce⟩ => ?_)
    have z2 : IsZip g2 z TI TO .ellipsis := s2 _ _ D.i1z.symm z1
    have ez : e ≠ z := fun y => by subst y; rw [z2] at he; cases he; simp at ce
    exact wpAny_setField_rec z2 (by simp) fun g3 _ s3 => stopped ⟨oe, s3.extBut _ _ ez he, ce⟩ fun e o q1 _ q3 _ h => s3.extBut _ _ q1 (s2 _ _ q3 (s1.extBut _ _ q1 h))
  | some x =>
    have hy : ys[k]? = none := hend.resolve_left (by rw [hx]; simp)
    refine wpAny_bind (nextA_item (a1.at fun o e => s1.extBut _ o D.i1z e) (b1.at fun o e => s1.extBut _ o D.l1z e) hx fun g2 j1 s2 => wpAny_pure ?_)
    have o2 : IsPair g2 TO p q := s2.extBut _ _ D.TOi1 (s1.extBut _ _ D.TOz hO)
    refine wpAny_bind (wpAny_seqItems o2 rfl (wpAny_bind (wpAny_updateSeq_pair o2 fun g3 o3 s3 => wpAny_bind (wpAny_letGo (wpAny_pure ?_)))))
    refine wpAny_bind (wpAny_bind (wpAny_onRaise ?_))
    show wpAny _ _ (Builtin.SmallTypes.nextOf (.ref i2) >>= _) _ _ _
    refine wpAny_bind (nextA_end hh (a2.at fun o e => s3.extBut _ o D.TOi2.symm (s2.extBut _ o D.i12.symm (s1.extBut _ o D.i2z e))) (b2.at fun o e => s3.extBut _ o D.l2TO (s2.extBut _ o D.l2i1 (s1.extBut _ o D.l2z e))) hy fun g4 e s4 ⟨oe, he, ce⟩ => ?_)
    have z4 : IsZip g4 z TI TO .ellipsis := s4 _ _ D.i2z.symm (s3.extBut _ _ D.TOz.symm (s2.extBut _ _ D.i1z.symm z1))
    have ez : e ≠ z := fun y => by subst y; rw [z4] at he; cases he; simp at ce
    exact wpAny_setField_rec z4 (by simp) fun g5 _ s5 => stopped ⟨oe, s5.extBut _ _ ez he, ce⟩ fun e o q1 q2 q3 q4 h => s5.extBut _ _ q1 (s4 _ _ q4 (s3.extBut _ _ q2 (s2.extBut _ _ q3 (s1.extBut _ _ q1 h))))
def itO (b : Bool) (l : Addr) : Obj := { cls := .type (if b then "tuple_iterator" else "list_iterator"), data := .fields #[.ref l, .int 0 0] }
theorem iterA {b : Bool} {l : Addr} {xs : Array Value} {Q : Value → Shared → Prop} (h : SqA b s.heap l xs) (q : Q (.ref s.heap.objs.size) { s with heap := s.heap.push (itO b l) }) : wpAny (model prog w) A (pyIter (.ref l)) Q E s := by
  cases b
  · exact wpAny_pyIter_list h q
  · exact wpAny_pyIter_tuple h q
theorem itO_at {b : Bool} {l it : Addr} {h : Heap} (e : h.get? it = some (itO b l)) : ItA b h it l 0 := by
  cases b <;> exact ⟨_, e, rfl, rfl⟩
abbrev zh1 (c : Bool) (h : Heap) (l1 : Addr) : Heap := h.push (itO c l1)
abbrev zh2 (c d : Bool) (h : Heap) (l1 l2 : Addr) : Heap := (zh1 c h l1).push (itO d l2)
abbrev zh3 (c d : Bool) (h : Heap) (l1 l2 : Addr) : Heap := (zh2 c d h l1 l2).push { cls := .type "tuple", data := .seq #[.ref h.objs.size, .ref (zh1 c h l1).objs.size] }
abbrev zh4 (c d : Bool) (h : Heap) (l1 l2 : Addr) : Heap := (zh3 c d h l1 l2).push { cls := .type "tuple", data := .seq #[.none, .none] }
abbrev zh5 (c d : Bool) (h : Heap) (l1 l2 : Addr) : Heap := (zh4 c d h l1 l2).push { cls := .type "zip", data := .fields #[.none, .bool false, .bool false, .ref (zh2 c d h l1 l2).objs.size, .ref (zh3 c d h l1 l2).objs.size] }
theorem zipA_new (c d : Bool) (l1 l2 : Addr) (xs ys : Array Value) : Meets (Builtin.«zip.__new__» ⟨[.type "zip", .ref l1, .ref l2], []⟩) (fun _ R s => SqA c s.heap l1 xs ∧ SqA d s.heap l2 ys ∧ R (.ok (.ret (.ref (zh4 c d s.heap l1 l2).objs.size))) { s with heap := zh5 c d s.heap l1 l2 }) :=
  .of_wp fun prog w A R s h => by
    obtain ⟨hp, g, dd, tk, os⟩ := s
    obtain ⟨m1, m2, h⟩ := h
    have hsub := PySem.sub_zip
    have M1 : SqA c (Shared.heap ⟨hp, g, dd, tk, os⟩) l1 xs := m1
    have M2 : SqA d (Shared.heap ⟨hp.push (itO c l1), g, dd, tk, os⟩) l2 ys := m2.at fun o e => Heap.get?_push_of_some _ e
    wp_walk using iterA M1, iterA M2
    exact ⟨_, rfl, h⟩
theorem call_zipA {c d : Bool} {l1 l2 : Addr} {xs ys : Array Value} {Q : Value → Shared → Prop} (m1 : SqA c s.heap l1 xs) (m2 : SqA d s.heap l2 ys)
    (h : ∀ h', IsZip h' (s.heap.objs.size + 4) (s.heap.objs.size + 2) (s.heap.objs.size + 3) .none → IsPair h' (s.heap.objs.size + 2) (.ref s.heap.objs.size) (.ref (s.heap.objs.size + 1)) →
      IsPair h' (s.heap.objs.size + 3) .none .none → ItA c h' s.heap.objs.size l1 0 → ItA d h' (s.heap.objs.size + 1) l2 0 → (∀ e o, s.heap.get? e = some o → h'.get? e = some o) → Q (.ref (s.heap.objs.size + 4)) { s with heap := h' }) :
    wpAny (model prog w) A (call (.type "zip") [.ref l1, .ref l2]) Q E s := by
  refine callType_new F.called_zip (by decide) (F.typeCall_zip_2 _ _) (F.newCall_zip_2 _ _) (fun obj => F.args_object_init_3 obj _ _) F.entry_zip_new (zipA_new c d l1 l2 xs ys) ⟨m1, m2, ?_⟩
  have n1 : (zh1 c s.heap l1).objs.size = s.heap.objs.size + 1 := Heap.size_push ..
  have n2 : (zh2 c d s.heap l1 l2).objs.size = s.heap.objs.size + 2 := by rw [Heap.size_push, n1]
  have n3 : (zh3 c d s.heap l1 l2).objs.size = s.heap.objs.size + 3 := by rw [Heap.size_push, n2]
  have n4 : (zh4 c d s.heap l1 l2).objs.size = s.heap.objs.size + 4 := by rw [Heap.size_push, n3]
  have up1 : ∀ {h : Heap} {o u : Obj} {e : Addr}, h.get? e = some u → (h.push o).get? e = some u := fun q => Heap.get?_push_of_some _ q
  have g5 : (zh5 c d s.heap l1 l2).get? (zh4 c d s.heap l1 l2).objs.size = some _ := Heap.get?_push_size _ rfl
  have g4 : (zh5 c d s.heap l1 l2).get? (zh3 c d s.heap l1 l2).objs.size = some _ := up1 (Heap.get?_push_size _ rfl)
  have g3 : (zh5 c d s.heap l1 l2).get? (zh2 c d s.heap l1 l2).objs.size = some _ := up1 (up1 (Heap.get?_push_size _ rfl))
  have g2 : (zh5 c d s.heap l1 l2).get? (zh1 c s.heap l1).objs.size = some (itO d l2) := up1 (up1 (up1 (Heap.get?_push_size _ (by cases d <;> rfl))))
  have g1 : (zh5 c d s.heap l1 l2).get? s.heap.objs.size = some (itO c l1) := up1 (up1 (up1 (up1 (Heap.get?_push_size _ (by cases c <;> rfl)))))
  show _ ∧ _
  rw [n2, n3, n4] at g5
  rw [n1, n2] at g3
  rw [n3] at g4
  rw [n1] at g2
  rw [n4]
  exact ⟨⟨_, g5, rfl⟩, h _ g5 g3 g4 (itO_at g1) (itO_at g2) fun e o q => up1 (up1 (up1 (up1 (up1 q))))⟩
end
def SqE (K : PySem.W.Frag) (H : Hp) (a : Addr) (xs : List V) : Bool → Prop
  | false => SqL K H a xs
  | true => SqT K H a xs
theorem SqE.mono {K : PySem.W.Frag} {H H' : Hp} {a : Addr} {xs : List V} {b : Bool} (e : Ext H H') (h : SqE K H a xs b) : SqE K H' a xs b := by
  cases b
  · exact e.seqL h
  · exact e.seqT h
theorem Inv.sqe {X : Cx} {pins : List (Addr × Obj)} {σ : St} {H : Hp} {s : Shared} {a : Addr} {xs : List V} {b : Bool} (I : Inv X pins σ H s) (h : SqE X.K H a xs b) : ∃ its : List Value, Vals xs its ∧ SqA b s.heap a its.toArray ∧ xs.length ≤ sizeLine := by
  cases b
  · obtain ⟨its, r, p, z⟩ := I.list h; exact ⟨its, r, p.isList, z⟩
  · obtain ⟨its, r, p, z⟩ := I.tuple h; exact ⟨its, r, p, z⟩
theorem Inv.sqe_inj {X : Cx} {pins : List (Addr × Obj)} {σ : St} {H : Hp} {s : Shared} {a : Addr} {xs ys : List V} {b : Bool} (I : Inv X pins σ H s) (h : SqE X.K H a xs b) (h' : SqE X.K H a ys b) : xs = ys := by
  cases b
  · exact I.list_inj h h'
  · exact I.tuple_inj h h'
def Itz2 (K : PySem.W.Frag) (c d : Bool) (p q : Addr) : It :=
  ⟨fun i H => ∃ xs ys, SqE K H p xs c ∧ SqE K H q ys d ∧ i < xs.length ∧ i < ys.length,
   fun i H x H' => ∃ r u v, H r = none ∧ x = .ref r ∧ H' = upd H r (.tup [u, v]) ∧ ∀ xs ys, SqE K H p xs c → SqE K H q ys d → xs[i]? = some u ∧ ys[i]? = some v,
   fun i H => ∃ xs ys, SqE K H p xs c ∧ SqE K H q ys d ∧ (xs.length ≤ i ∨ ys.length ≤ i)⟩
def zst (c d : Bool) (z TI TO i1 i2 l1 l2 : Addr) (i : Nat) (h : Heap) : Prop := IsZip h z TI TO .none ∧ IsPair h TI (.ref i1) (.ref i2) ∧ (∃ a b, IsPair h TO a b) ∧ ItA c h i1 l1 i ∧ ItA d h i2 l2 i
theorem turn_zip2 {P : Program} {w : World} {K : PySem.W.Frag} {es : List Expr} {kx : Nat} {tp : Pos} {cc dd : Bool} {z TI TO i1 i2 l1 l2 : Addr} (D : ZipApart z TI TO i1 i2 l1 l2) :
    Turn P w K (.Tuple es kx tp) (Itz2 K cc dd l1 l2) [z, TI, TO, i1, i2] z (zst cc dd z TI TO i1 i2 l1 l2) where
  mem := by simp
  obj := fun i h st b hb => by
    obtain ⟨hz, hTI, ⟨a, c, hTO⟩, s1, s2⟩ := st
    simp only [List.mem_cons, List.mem_nil_iff, or_false] at hb
    rcases hb with rfl | rfl | rfl | rfl | rfl
    · exact ⟨_, hz, fun v q => by cases q⟩
    · exact ⟨_, hTI, fun v q => by cases q⟩
    · exact ⟨_, hTO, fun v q => by cases q⟩
    · exact s1.ex
    · exact s2.ex
  keep := fun i h h' st k => by
    obtain ⟨hz, hTI, ⟨a, c, hTO⟩, s1, s2⟩ := st
    exact ⟨k z (by simp) _ hz, k TI (by simp) _ hTI, ⟨a, c, k TO (by simp) _ hTO⟩, s1.at fun o e => k i1 (by simp) o e, s2.at fun o e => k i2 (by simp) o e⟩
  item := by
    intro X hP hw hK hc i pins s σ H E I hf st hg
    subst hP hw hK
    obtain ⟨xs, ys, hx, hy, lx, ly⟩ := hg
    obtain ⟨hz, hTI, ⟨a, c, hTO⟩, s1, s2⟩ := id st
    obtain ⟨us, ru, pu, zu⟩ := I.sqe hx
    obtain ⟨ws, rw', pw, zw⟩ := I.sqe hy
    obtain ⟨u, eu, r1⟩ := ru.get (List.getElem?_eq_getElem lx)
    obtain ⟨v, ev, r2⟩ := rw'.get (List.getElem?_eq_getElem ly)
    refine zipA_item D hz hTI hTO s1 s2 pu pw (x := u) (y := v) (by simpa using eu) (by simpa using ev) fun h1 z1 t1 j1 j2 np kk => ⟨_, rfl, ?_⟩
    refine wpAny_letOwnedTupleGo_zip z1 fun h2 z2 sb => ?_
    have nT : s.heap.objs.size ≠ z := Nat.ne_of_gt (Heap.lt_size hz)
    have kk2 : ∀ b o, b ∉ [z, TI, TO, i1, i2] → s.heap.get? b = some o → h2.get? b = some o := fun b o hb e => by
      simp only [List.mem_cons, List.mem_nil_iff, or_false, not_or] at hb
      exact sb.extBut b o hb.1 (kk b o hb.1 hb.2.2.1 hb.2.2.2.1 hb.2.2.2.2 e)
    have np2 : IsPair h2 s.heap.objs.size u v := sb.extBut _ _ nT np
    have I2 := I.turnLaid (t' := s.toks) (a := s.heap.objs.size) (o := .tup [xs[i], ys[i]]) kk2 hf (Nat.le_refl _) (show ObjOk X.prog X.w _ h2 _ (.tup [xs[i], ys[i]]) from ⟨by show 2 ≤ sizeLine; rw [sizeLine_eq]; decide, [u, v], .cons r1 (.cons r2 .nil), ⟨⟨_, np2, rfl, 0, rfl⟩, _, np2, rfl⟩⟩)
    refine ⟨.ref s.heap.objs.size, _, I2, rfl, ⟨_, _, _, I.hok.fresh (Nat.le_refl _), rfl, rfl, fun xs' ys' e1 e2 => ?_⟩, ?_, fun b hb => ?_⟩
    · rw [I.sqe_inj e1 hx, I.sqe_inj e2 hy]
      exact ⟨List.getElem?_eq_getElem lx, List.getElem?_eq_getElem ly⟩
    · exact ⟨z2, sb.extBut _ _ D.TIz (kk TI _ D.TIz D.TITO D.TIi1 D.TIi2 hTI), ⟨_, _, sb.extBut _ _ D.TOz t1⟩, j1.at fun o e => sb.extBut _ o D.i1z e, j2.at fun o e => sb.extBut _ o D.i2z e⟩
    · rw [upd_ne (fun q => ?_)]
      · exact (hf b hb).1
      · have lt : b < s.heap.objs.size := by
          simp only [List.mem_cons, List.mem_nil_iff, or_false] at hb
          rcases hb with rfl | rfl | rfl | rfl | rfl
          · exact Heap.lt_size hz
          · exact Heap.lt_size hTI
          · exact Heap.lt_size hTO
          · exact s1.lt
          · exact s2.lt
        exact absurd lt (by rw [q]; exact Nat.lt_irrefl _)
  done := by
    intro X hP hw hK hc i pins s σ H E I hf st hg
    subst hP hw hK
    obtain ⟨xs, ys, hx, hy, hl⟩ := hg
    obtain ⟨hz, hTI, ⟨a, c, hTO⟩, s1, s2⟩ := st
    obtain ⟨us, ru, pu, zu⟩ := I.sqe hx
    obtain ⟨ws, rw', pw, zw⟩ := I.sqe hy
    have l1 := ru.length
    have l2 := rw'.length
    refine zipA_end (I.ok.hd hc) D hz hTI hTO s1 s2 pu pw ?_ fun h1 kk => ⟨rfl, I.turns (t' := s.toks) (ch := [z, TI, TO, i1, i2]) (fun b o hb e => ?_) hf⟩
    · rcases hl with q | q
      · exact .inl (by simp; omega)
      · exact .inr (by simp; omega)
    · simp only [List.mem_cons, List.mem_nil_iff, or_false, not_or] at hb
      exact kk b o hb.1 hb.2.2.1 hb.2.2.2.1 hb.2.2.2.2 e
  self := fun _ _ _ _ _ st h => wpAny_pyIter_zip st.1 h
section
variable {X : Cx}
def iZip2 (K : PySem.W.Frag) (ta : TA) : TI := fun σ H R => ta σ H fun vs H1 => ∃ p q xs ys c d, vs = [.ref p, .ref q] ∧ SqE K H1 p xs c ∧ SqE K H1 q ys d ∧ R (Itz2 K c d p q) H1
theorem pi_zip2 {es : List Expr} {kx : Nat} {tp : Pos} {a b : Expr} {ta : TA} {p pos : Pos} (hg : Gl X "zip") (hm : X.mg "zip" = none) (ha : PA X [a, b] ta) (hs : starEach [a, b] X.env = [(false, eval a X.env), (false, eval b X.env)] := by rfl) (hs2 : starEach [b] X.env = [(false, eval b X.env)] := by rfl) :
    PI X (.Tuple es kx tp) (.Call (.Name "zip" p) [a, b] [] pos) (iZip2 X.K ta) := by
  intro pins s σ H R I h
  refine Call_ (ld_blt I hg hm boot_zip (PyProof.Rows.callWith_type1 (thn (ha pos pins s σ H _ I h) fun us s1 ⟨vs, H1, I1, r1, q1⟩ => ?_) (by rw [hs, hs2]) (by rw [hs2]; rfl)))
  obtain ⟨p1, p2, xs, ys, c, d, e, hx, hy, q⟩ := q1
  subst e
  obtain ⟨u, v, rfl, ru, rv⟩ := vals2 r1
  cases ru
  cases rv
  obtain ⟨i1, ri1, pl1, z1⟩ := I1.sqe hx
  obtain ⟨i2, ri2, pl2, z2⟩ := I1.sqe hy
  refine call_zipA pl1 pl2 fun h' hz hTI hTO j1 j2 hk => ?_
  have I2 : Inv X pins σ H1 { s1 with heap := h' } := I1.kept (t' := s1.toks) hk
  refine wpAny_pyIter_zip (s := { s1 with heap := h' }) hz ⟨_, [s1.heap.objs.size + 4, s1.heap.objs.size + 2, s1.heap.objs.size + 3, s1.heap.objs.size, s1.heap.objs.size + 1], _, _, H1, rfl, I2, turn_zip2 (zipApart_new pl1.lt pl2.lt), ⟨hz, hTI, ⟨_, _, hTO⟩, j1, j2⟩, fun b hb => ?_, q⟩
  have hb' : s1.heap.objs.size ≤ b := by
    simp only [List.mem_cons, List.mem_nil_iff, or_false] at hb
    rcases hb with rfl | rfl | rfl | rfl | rfl <;> omega
  exact I1.fpOk hb' (I1.hok.fresh hb')
end
theorem for_zip2 {K : PySem.W.Frag} {p q : Addr} {c d : Bool} {xs ys : List V} {g : TG} {tb : TS} {D : Ends} {σ : St} {H : Hp} (Pv : Nat → St → Hp → Prop) (hl : xs.length = ys.length) (h0 : Pv 0 σ H) (hq : ∀ i σ H, i ≤ xs.length → Pv i σ H → SqE K H p xs c ∧ SqE K H q ys d)
    (hs : ∀ i x y σ H r, xs[i]? = some x → ys[i]? = some y → Pv i σ H → H r = none → g (.ref r) σ (upd H r (.tup [x, y])) fun σ2 H2 => tb { D with nx := Pv (i + 1), ct := Pv (i + 1), bk := D.nx } σ2 H2) (hd : ∀ σ H, Pv xs.length σ H → D.nx σ H) :
    ∃ W : Nat → Nat → St → Hp → Prop, (∃ m, W 0 m σ H) ∧ ∀ i m σ H, W i m σ H →
      ((Itz2 K c d p q).stop i H ∧ D.nx σ H) ∨ ((Itz2 K c d p q).go i H ∧ ∃ N : St → Hp → Prop, (∀ σ' H', N σ' H' → ∃ m', m' < m ∧ W (i + 1) m' σ' H') ∧ ∀ x H', (Itz2 K c d p q).yld i H x H' → g x σ H' fun σ2 H2 => tb { D with nx := N, ct := N, bk := D.nx } σ2 H2) := by
  refine ⟨fun i m σ H => m = xs.length - i ∧ i ≤ xs.length ∧ Pv i σ H, ⟨xs.length, by simp, Nat.zero_le _, h0⟩, ?_⟩
  rintro i m σ H ⟨rfl, hi, pv⟩
  obtain ⟨q1, q2⟩ := hq i σ H hi pv
  by_cases hlt : i < xs.length
  · refine .inr ⟨⟨xs, ys, q1, q2, hlt, by omega⟩, Pv (i + 1), fun σ' H' p' => ⟨xs.length - (i + 1), by omega, rfl, hlt, p'⟩, fun x H' y => ?_⟩
    obtain ⟨r, u, v, n, rfl, rfl, y⟩ := y
    obtain ⟨e1, e2⟩ := y xs ys q1 q2
    exact hs i u v σ _ r e1 e2 pv n
  · have e : i = xs.length := by omega
    subst e
    exact .inl ⟨⟨xs, ys, q1, q2, .inl (Nat.le_refl _)⟩, hd σ H pv⟩
theorem comp_zip2 {K : PySem.W.Frag} {ts : List TT} {te : TE} {acc : Addr} {fr : St} {H1 : Hp} {R : Hp → Prop} {xs zs : List V} {p q : Addr} {c d : Bool} {u v : Option V} (hx : SqE K H1 p xs c) (hy : SqE K H1 q zs d) (hl : xs.length = zs.length) (hz : xs.length ≤ 1000000) (hn : H1 acc = none) (Pv : Nat → List V → Hp → Prop) (h0 : Pv 0 [] H1) (kp : ∀ i ys H H', Kp H H' → Pv i ys H → Pv i ys H') (len : ∀ i ys H, i ≤ xs.length → Pv i ys H → ys.length ≤ i)
    (turn : ∀ i x z ys H H', xs[i]? = some x → zs[i]? = some z → Ext H1 H → Ext H H' → Pv i ys H → Turned ts te (Pv (i + 1)) ys H (some x :: some z :: fr) H')
    (fin : ∀ ys H, Ext H1 H → H acc = some (.lst ys) → Pv xs.length ys H → R H) : rComp (Itz2 K c d p q) (gTup K 2 (gCons (gName 0) (gCons (gName 1) gNil))) ts te acc (u :: v :: fr) H1 R := by
  refine comp_gen xs.length hz hn (fun σ => ∃ u v, σ = u :: v :: fr) Pv ⟨u, v, rfl⟩ h0 kp (fun i H hi e => ⟨xs, zs, hx.mono e, hy.mono e, hi, by omega⟩) (fun H e => ⟨xs, zs, hx.mono e, hy.mono e, .inl (Nat.le_refl _)⟩) len ?_ fin
  rintro i σ ys H x H' G hi e ⟨u, v, rfl⟩ pv ⟨r, y1, y2, nr, rfl, rfl, y⟩ hG
  obtain ⟨e1, e2⟩ := y xs zs (hx.mono e) (hy.mono e)
  exact ⟨r, [y1, y2], rfl, SqT.of upd_same, rfl, y1, [y2], rfl, y2, [], rfl, rfl, hG _ _ ⟨_, _, rfl⟩ (turn i y1 y2 ys _ _ e1 e2 e (ext_upd nr) pv)⟩
section
variable {prog : Program} {w : World} {A : Around} {E : Value → Shared → Prop} {s : Shared}
theorem collectA {b : Bool} {l : Addr} {vs : List Value} {Q : List Value → Shared → Prop} (hl : SqA b s.heap l vs.toArray) (hz : vs.length ≤ sizeLine)
    (h : Q vs { s with heap := (s.heap.push (seqObj "list" #[] 0)).update s.heap.objs.size (Obj.mapSeq (· ++ vs.toArray)) }) : wpAny (model prog w) A (collect (.ref l)) Q E s := by
  cases b with
  | false => exact collect_list hl h hz
  | true =>
    obtain ⟨ob, eb, cb, nb, db⟩ := id hl
    unfold collect; refine wpAny_bind (wpAny_runValue (codeAny_builtin entry_proto_collect' ?_))
    show wpAny _ _ (do again (.builtin "list.__iadd__" ⟨[← newList [], .ref l], []⟩)) _ _ _; refine wpAny_bind (wpAny_newList (wpAny_pure ⟨Code.quiet_builtin _ (by decide +kernel), codeAny_builtin entry_list_iadd' ?_⟩))
    show wpAny _ _ (Builtin.List.listExtendWith (.ref s.heap.objs.size) (.ref l) (.ref s.heap.objs.size)) _ _ { s with heap := s.heap.push (seqObj "list" #[] 0) }; unfold Builtin.List.listExtendWith
    have eb' : (s.heap.push (seqObj "list" #[] 0)).get? l = some ob := Heap.get?_push_of_some _ eb
    refine wpAny_bind (wpAny_typeOf (T := "tuple") ⟨ob, eb', cb⟩ ?_)
    rw [if_pos (by rw [show (Value.type "tuple" == Value.type "tuple") = true from rfl]; simp)]
    refine wpAny_bind (listItems_at eb' db (wpAny_bind (listItems_at (xs := #[]) (n := 0) (Heap.get?_push_size _ rfl) rfl ?_))); rw [if_neg (by simp)]
    refine wpAny_bind (listUpdate_at (xs := #[]) (n := 0) (Heap.get?_push_size _ rfl) rfl (wpAny_pure ?_) (Nat.zero_le _) (by show (#[] ++ vs.toArray).size ≤ sizeLine + 1; simp only [Array.size_append, List.size_toArray, List.length_nil]; omega))
    show wpAny (model prog w) A (do let o ← load s.heap.objs.size; match o.data with | .seq xs _ => pure xs.toList | _ => unsupported "internal:collect") Q E { s with heap := (s.heap.push (seqObj "list" #[] 0)).update s.heap.objs.size (Obj.mapSeq (· ++ vs.toArray)) }
    refine wpAny_bind (wpAny_load (get?_update_seq (Heap.get?_push_size _ rfl) _) ?_)
    show wpAny _ _ (pure ((#[] : Array Value) ++ vs.toArray).toList) Q E _; rw [show ((#[] : Array Value) ++ vs.toArray).toList = vs by simp]; exact wpAny_pure h
theorem sortedA {b : Bool} {l : Addr} {vs : List Value} {ns : List Int} {Q : Value → Shared → Prop} (hl : SqA b s.heap l vs.toArray) (hz : vs.length ≤ sizeLine) (hI : IntsAre vs ns) (h64 : vs.length < 64)
    (h : ∀ (out : Array Value) (ns' : List Int), IntsAre out.toList ns' → ns'.Perm ns → ns'.Pairwise (· ≤ ·) → Q (.ref (s.heap.objs.size + 1)) { s with heap := sortedAll s.heap vs out }) : wpAny (model prog w) A (call (.builtin "sorted") [.ref l]) Q E s := by
  refine Calls.call_function_entry kind_sorted plain_sorted entry_sorted (args_sorted1 _) ?_; unfold Builtin.«sorted»
  refine wpAny_bind (m := checkCount "sorted" 1 1 _) (wpAny_pure (wpAny_bind (collectA hl hz (wpAny_bind (wpAny_newList ?_)))))
  have n1 : ((s.heap.push (seqObj "list" #[] 0)).update s.heap.objs.size (Obj.mapSeq (· ++ vs.toArray))).objs.size = s.heap.objs.size + 1 := by rw [Heap.size_update, size_push']
  have o1 : (((s.heap.push (seqObj "list" #[] 0)).update s.heap.objs.size (Obj.mapSeq (· ++ vs.toArray))).push (seqObj "list" vs.toArray 0)).get? (s.heap.objs.size + 1) = some (seqObj "list" vs.toArray 0) := by rw [← n1]; exact Heap.get?_push_size _ rfl
  show wpAny _ _ _ _ _ { s with heap := ((s.heap.push (seqObj "list" #[] 0)).update s.heap.objs.size (Obj.mapSeq (· ++ vs.toArray))).push (seqObj "list" vs.toArray 0) }; rw [n1]
  exact wpAny_bind (wpAny_holding (wpAny_call_entry slot_list_sort ⟨_, o1, rfl⟩ entry_list_sort (list_sort_tree o1 hI h64 fun out ns' a1 a2 a3 => ⟨_, rfl, wpAny_pure ⟨_, rfl, h out ns' a1 a2 a3⟩⟩) (args_list_sort _)))
end
section
variable {X : Cx}
def rSorted (K : PySem.W.Frag) : List V → Hp → VK → Prop := fun xs H Q => ∃ (p : Addr) (ns : List Int) (c : Bool), xs = [.ref p] ∧ SqE K H p (ns.map V.int) c ∧ ns.length < 64 ∧ ∀ l (ns' : List Int), H l = none → ns'.Perm ns → ns'.Pairwise (· ≤ ·) → Q (.ref l) (upd H l (.lst (ns'.map V.int)))
theorem cSorted : CallR X (.builtin "sorted") (rSorted X.K) := by
  intro pins s σ H xs us Q I r h
  obtain ⟨p, ns, c, rfl, hq, h64, q⟩ := h
  obtain ⟨u, rfl, rx⟩ := vals1 r
  cases rx
  obtain ⟨its, r', pl, hz⟩ := I.sqe hq
  have hi : IntsAre its ns := intsAre_of r'
  have hlen := r'.length
  rw [List.length_map] at hlen hz
  refine sortedA pl (by omega) hi (by omega) fun out ns' a1 a2 a3 => ?_
  obtain ⟨e, he⟩ := sortedAll_at s.heap its out
  refine ⟨.ref (s.heap.objs.size + 1), _, I.laid (t' := s.toks) (fun b o q => sortedAll_old q) (Nat.le_succ _) (show ObjOk X.prog X.w _ _ _ (.lst (ns'.map V.int)) from ⟨by rw [List.length_map, a2.length_eq]; exact hz, out.toList, e, vals_ints a1, by simpa using he⟩), rfl, q _ ns' (I.hok.fresh (Nat.le_succ _)) a2 a3⟩
end
mutual
def D.py : D → PyData
  | .non => .none | .bl b => .bool b | .int i => .int i | .str x => .str x | .tup l => .tuple (D.pyL l) | .lst l => .list (D.pyL l) | .dct => .dict []
def D.pyL : List D → List PyData
  | [] => []
  | d :: r => d.py :: D.pyL r
def D.eqOk : D → Bool
  | .str x => PyData.strOk x
  | .tup l => D.eqOkL l
  | .lst l => D.eqOkL l
  | .dct => false
  | _ => true
def D.eqOkL : List D → Bool
  | [] => true
  | d :: r => d.eqOk && D.eqOkL r
end
mutual
theorem D.canLay : ∀ d : D, d.eqOk = true → d.py.canLay0 = true
  | .non, _ => by simp [D.py, PyData.canLay0]
  | .bl _, _ => by simp [D.py, PyData.canLay0]
  | .int _, _ => by simp [D.py, PyData.canLay0]
  | .str x, h => by simp only [D.eqOk] at h; simpa [D.py, PyData.canLay0] using h
  | .tup l, h => by simp only [D.eqOk] at h; simpa [D.py, PyData.canLay0] using D.canLayL l h
  | .lst l, h => by simp only [D.eqOk] at h; simpa [D.py, PyData.canLay0] using D.canLayL l h
  | .dct, h => by simp [D.eqOk] at h
theorem D.canLayL : ∀ l : List D, D.eqOkL l = true → PyData.canLayAll0 (D.pyL l) = true
  | [], _ => by simp [D.pyL, PyData.canLayAll0]
  | d :: r, h => by
    simp only [D.eqOkL, Bool.and_eq_true] at h
    simp [D.pyL, PyData.canLayAll0, D.canLay d h.1, D.canLayL r h.2]
theorem D.pyDepth : ∀ d : D, d.py.depth ≤ d.depth + 1
  | .non => by simp [D.py, PyData.depth]
  | .bl _ => by simp [D.py, PyData.depth]
  | .int _ => by simp [D.py, PyData.depth]
  | .str _ => by simp [D.py, PyData.depth]
  | .tup l => by have := D.pyDepthL l; simp only [D.py, PyData.depth, D.depth]; omega
  | .lst l => by have := D.pyDepthL l; simp only [D.py, PyData.depth, D.depth]; omega
  | .dct => by simp [D.py, PyData.depth, PyData.depthKv, D.depth]
theorem D.pyDepthL : ∀ l : List D, PyData.depthAll (D.pyL l) ≤ D.depthL l + 1
  | [] => by simp [D.pyL, PyData.depthAll]
  | d :: r => by have a := D.pyDepth d; have b := D.pyDepthL r; simp only [D.pyL, PyData.depthAll, D.depthL]; omega
end
section
variable {X : Cx} {pins : List (Addr × Obj)} {σ : St} {H : Hp} {s : Shared}
mutual
theorem reads_of (I : Inv X pins σ H s) : ∀ (d : D) {v : V} {u : Value}, Rep H d v → RelV v u → d.eqOk = true → ∃ as, Reads s.heap u d.py as
  | .non, v, u, h, r, _ => by unfold Rep at h; subst h; cases (show u = Value.none from r); exact ⟨_, .none⟩
  | .bl b, v, u, h, r, _ => by unfold Rep at h; subst h; cases (show u = Value.bool b from r); exact ⟨_, .bool b⟩
  | .int i, v, u, h, r, _ => by unfold Rep at h; subst h; obtain ⟨t, rfl⟩ := r; exact ⟨_, .int i t⟩
  | .str x, v, u, h, r, _ => by unfold Rep at h; subst h; obtain ⟨t, rfl⟩ := r; exact ⟨_, .str x t⟩
  | .tup l, v, u, h, r, ok => by
    unfold Rep at h
    obtain ⟨p, xs, rfl, hp, hl⟩ := h
    cases (show u = Value.ref p from r)
    obtain ⟨its, rv, ht, hz⟩ := I.tuple (SqT.of (K := X.K) hp)
    obtain ⟨as, ra⟩ := readsL_of I l hl rv (by simpa [D.eqOk] using ok)
    obtain ⟨o, e, c, n, dt⟩ := ht
    exact ⟨as, .tuple e c dt (by simpa using ra)⟩
  | .lst l, v, u, h, r, ok => by
    unfold Rep at h
    obtain ⟨p, xs, rfl, hp, hl⟩ := h
    cases (show u = Value.ref p from r)
    obtain ⟨its, rv, ht, hz⟩ := I.list (SqL.of (K := X.K) hp)
    obtain ⟨as, ra⟩ := readsL_of I l hl rv (by simpa [D.eqOk] using ok)
    obtain ⟨o, e, c, n, dt⟩ := ht.isList
    exact ⟨_, .list e c dt (by simpa using ra)⟩
  | .dct, v, u, h, r, ok => by simp [D.eqOk] at ok
theorem readsL_of (I : Inv X pins σ H s) : ∀ (l : List D) {vs : List V} {us : List Value}, RepL H l vs → Vals vs us → D.eqOkL l = true → ∃ as, ReadsAll s.heap us (D.pyL l) as
  | [], vs, us, h, r, _ => by unfold RepL at h; subst h; cases r; exact ⟨_, .nil⟩
  | d :: l, vs, us, h, r, ok => by
    unfold RepL at h
    obtain ⟨x, t, rfl, hd, hl⟩ := h
    simp only [D.eqOkL, Bool.and_eq_true] at ok
    cases r with
    | cons r1 r2 =>
      obtain ⟨as, a1⟩ := reads_of I d hd r1 ok.1
      obtain ⟨bs, b1⟩ := readsL_of I l hl r2 ok.2
      exact ⟨_, .cons a1 b1⟩
end
def eqD (a b : D) : Bool := PyData.eqv a.py b.py
def rEqD (neg : Bool) : R2 := fun x y H Q => ∃ a b, Rep H a x ∧ Rep H b y ∧ a.eqOk = true ∧ b.eqOk = true ∧ a.depth ≤ 20 ∧ Q (.bl (if neg then !eqD a b else eqD a b)) H
def rEqU : R2 := fun x y H Q => rEq x y H Q ∨ rEqD false x y H Q
theorem op_eqD {k : Nat} (hr : Room k X.A) : OpR X (compareOp .Eq) (rEqD false) := by
  intro pins s σ H x y v u Q I rx ry h
  obtain ⟨a, b, ha, hb, oa, ob, hd, q⟩ := h
  obtain ⟨as, r1⟩ := reads_of I a ha rx oa
  obtain ⟨bs, r2⟩ := reads_of I b hb ry ob
  have h1 := D.pyDepth a
  exact SeqAt.compareEq_reads r1 r2 (D.canLay a oa) (D.canLay b ob) (by have := hr.units; omega) ⟨.bl (eqD a b), H, I, rfl, q⟩
theorem oEq {k : Nat} (hr : Room k X.A) : OpR X (compareOp .Eq) rEqU := op_eq.or (op_eqD hr)
end
section
variable {X : Cx}
def rCatT2 (K : PySem.W.Frag) : R2 := fun x y H Q => ∃ a b xs ys, x = .ref a ∧ y = .ref b ∧ SqT K H a xs ∧ SqT K H b ys ∧ xs.length + ys.length ≤ 1000000 ∧
  (xs = [] → Q (.ref b) H) ∧ (xs ≠ [] → ys = [] → Q (.ref a) H) ∧ (xs ≠ [] → ys ≠ [] → ∀ p, H p = none → Q (.ref p) (upd H p (.tup (xs ++ ys))))
theorem op_catT2 : OpR X (binaryOp .Add) (rCatT2 X.K) := by
  intro pins s σ H x y v u Q I rx ry h
  obtain ⟨a, b, xs, ys, rfl, rfl, ha, hb, hl, q0, q1, q2⟩ := h
  cases rx
  cases ry
  obtain ⟨is1, r1, t1, z1⟩ := I.tuple ha
  obtain ⟨is2, r2, t2, z2⟩ := I.tuple hb
  have l1 := r1.length
  have l2 := r2.length
  have hz : is1.length + is2.length ≤ sizeLine := by rw [sizeLine_eq]; omega
  by_cases e : is1 = []
  · subst e
    have ex : xs = [] := List.length_eq_zero_iff.mp (by simpa using l1)
    obtain ⟨⟨cls, dd, data, sl⟩, ho, hc, n, hd⟩ := id t1
    obtain ⟨⟨cls2, dd2, data2, sl2⟩, ho2, hc2, n2, hd2⟩ := id t2
    simp only at hc hd hc2 hd2
    subst hc hd hc2 hd2
    exact concat_meets ⟨_, ho, rfl⟩ ⟨_, ho2, rfl⟩ noFill_tuple_add seq_tuple_add PySem.F.slot_tuple_add PySem.F.entry_tuple_add (PySem.F.args_tuple_add_2 _ _)
      (tuple_addW0 a b _ is2.toArray n n2 dd dd2 sl sl2 (by simp)) ⟨ho, ho2, ⟨.ref b, H, I, rfl, q0 ex⟩⟩
  · have ex : xs ≠ [] := fun z => e (List.length_eq_zero_iff.mp (by rw [← l1, z]; rfl))
    refine HT.cat_tup t1 t2 e (fun w => ⟨.ref a, H, I, rfl, q1 ex (List.length_eq_zero_iff.mp (by rw [l2, w]; rfl))⟩) (fun w => ?_) hz
    have ey : ys ≠ [] := fun z => w (List.length_eq_zero_iff.mp (by rw [← l2, z]; rfl))
    refine ⟨.ref s.heap.objs.size, _, I.laid (t' := s.toks) (fun b o e => Heap.get?_push_of_some _ e) (Nat.le_refl _) (show ObjOk X.prog X.w _ _ _ (.tup (xs ++ ys)) from ⟨by rw [List.length_append]; omega, is1 ++ is2, r1.append r2, TupN.new _ _⟩), rfl, q2 ex ey _ (I.hok.fresh (Nat.le_refl _))⟩
def rAddV (K : PySem.W.Frag) : R2 := fun x y H Q => (rI0 (fun i j => .int (i + j)) x y H Q ∨ rCat x y H Q) ∨ rCatT2 K x y H Q
theorem oAddV : OpR X (binaryOp .Add) (rAddV X.K) := (op_add.or op_cat).or op_catT2
end
section
variable {K : PySem.W.Frag} {σ : St} {H : Hp} {Q : VK} {D : Ends}
theorem r_addV {i j : Int} (q : Q (.int (i + j)) H) : rAddV K (.int i) (.int j) H Q := .inl (.inl ⟨i, j, rfl, rfl, q⟩)
theorem r_catL {l b : Addr} {xs zs : List V} (h1 : H l = some (.lst xs)) (h2 : H b = some (.lst zs)) (hl : xs.length + zs.length ≤ 1000000) (q : ∀ p H', H p = none → H' p = some (.lst (xs ++ zs)) → Ext H H' → Q (.ref p) H') : rAddV K (.ref l) (.ref b) H Q :=
  .inl (.inr ⟨l, b, xs, zs, rfl, rfl, h1, h2, Nat.le_trans hl (by rw [sizeLine_eq]; decide), fun p n => q p _ n upd_same (ext_upd n)⟩)
theorem r_catT {l b : Addr} {xs zs : List V} (h1 : H l = some (.tup xs)) (h2 : H b = some (.tup zs)) (hl : xs.length + zs.length ≤ 1000000) (q : ∀ p H', H' p = some (.tup (xs ++ zs)) → Ext H H' → Q (.ref p) H') : rAddV K (.ref l) (.ref b) H Q :=
  .inr ⟨l, b, xs, zs, rfl, rfl, SqT.of h1, SqT.of h2, hl, fun e => q b H (by rw [e]; exact h2) Ext.rfl', fun _ e => q l H (by rw [e, List.append_nil]; exact h1) Ext.rfl', fun _ _ p n => q p _ upd_same (ext_upd n)⟩
theorem r_sl {r : V → Option Int → Option Int → Hp → VK → Prop} {te : TE} {tl th : TO} (q : te σ H fun x H1 => tl σ H1 fun l H2 => th σ H2 fun u H3 => r x l u H3 Q) : tSl r te tl th σ H Q := q
theorem r_nopart {R : Option Int → Hp → Prop} (q : R none H) : tNoPart σ H R := q
def rPart (x : V) (R : Option Int → Hp → Prop) (H : Hp) : Prop := ∃ i, x = .int i ∧ R (some i) H
theorem r_part {te : TE} {R : Option Int → Hp → Prop} (q : te σ H fun x H1 => rPart x R H1) : tPart te σ H R := q
theorem r_partI {i : Int} {R : Option Int → Hp → Prop} (q : R (some i) H) : rPart (.int i) R H := ⟨i, rfl, q⟩
theorem r_slL {p : Addr} {xs : List V} {lo hi : Option Int} (h : H p = some (.lst xs)) (q : ∀ l H', H l = none → H' l = some (.lst (cutV xs lo hi)) → Ext H H' → Q (.ref l) H') : rSlU K (.ref p) lo hi H Q := .inr ⟨p, xs, rfl, SqL.of h, fun l n => q l _ n upd_same (ext_upd n)⟩
theorem r_slT {p : Addr} {xs : List V} {lo hi : Option Int} (h : H p = some (.tup xs)) (nw : ¬ (HT.sIx xs.length 0 lo = 0 ∧ HT.sIx xs.length xs.length hi = xs.length)) (q : ∀ l H', H l = none → H' l = some (.tup (cutV xs lo hi)) → Ext H H' → Q (.ref l) H') : rSlU K (.ref p) lo hi H Q := .inl ⟨p, xs, rfl, SqT.of h, nw, fun l n => q l _ n upd_same (ext_upd n)⟩
theorem r_zip2 {ta : TA} {R : It → Hp → Prop} (q : ta σ H fun vs H1 => ∃ p q xs ys c d, vs = [.ref p, .ref q] ∧ SqE K H1 p xs c ∧ SqE K H1 q ys d ∧ R (Itz2 K c d p q) H1) : iZip2 K ta σ H R := q
theorem r_sortedL {p : Addr} {ns : List Int} (h : H p = some (.lst (ns.map V.int))) (hl : ns.length < 64) (q : ∀ l (ns' : List Int) H', H l = none → ns'.Perm ns → ns'.Pairwise (· ≤ ·) → H' l = some (.lst (ns'.map V.int)) → Ext H H' → Q (.ref l) H') : rSorted K [.ref p] H Q :=
  ⟨p, ns, false, rfl, SqL.of h, hl, fun l ns' n a b => q l ns' _ n a b upd_same (ext_upd n)⟩
theorem r_sortedT {p : Addr} {ns : List Int} (h : H p = some (.tup (ns.map V.int))) (hl : ns.length < 64) (q : ∀ l (ns' : List Int) H', H l = none → ns'.Perm ns → ns'.Pairwise (· ≤ ·) → H' l = some (.lst (ns'.map V.int)) → Ext H H' → Q (.ref l) H') : rSorted K [.ref p] H Q :=
  ⟨p, ns, true, rfl, SqT.of h, hl, fun l ns' n a b => q l ns' _ n a b upd_same (ext_upd n)⟩
theorem r_eqUI {i j : Int} (q : Q (.bl (decide (i = j))) H) : rEqU (.int i) (.int j) H Q := .inl (r_eqI q)
theorem r_eqUB {i j : Bool} (q : Q (.bl (decide (i = j))) H) : rEqU (.bl i) (.bl j) H Q := .inl (r_eqB q)
theorem r_eqUS {i j : Str} (q : Q (.bl (decide (i = j))) H) : rEqU (.str i) (.str j) H Q := .inl (r_eqS q)
theorem r_eqD {x y : V} {a b : L2.D} (ha : Rep H a x) (hb : Rep H b y) (oa : a.eqOk = true) (ob : b.eqOk = true) (hd : a.depth ≤ 20) (q : Q (.bl (eqD a b)) H) : rEqU x y H Q := .inr ⟨a, b, ha, hb, oa, ob, hd, q⟩
theorem r_inT {p : Addr} {x : V} {xs : List V} (h : H p = some (.tup xs)) (fx : flatV x = true) (fl : xs.all flatV = true) (q : Q (.bl (inV x xs)) H) : rInU K false x (.ref p) H Q := ⟨p, xs, rfl, .inr (SqT.of h), fx, fl, q⟩
theorem r_notinT {p : Addr} {x : V} {xs : List V} (h : H p = some (.tup xs)) (fx : flatV x = true) (fl : xs.all flatV = true) (q : Q (.bl (!inV x xs)) H) : rInU K true x (.ref p) H Q := ⟨p, xs, rfl, .inr (SqT.of h), fx, fl, q⟩
theorem r_tests0 {te : TE} {Y : V → Hp → Prop} {N : Hp → Prop} (q : te σ H Y) : tTests [] σ H fun b H3 => if b = true then te σ H3 Y else N H3 := by
  show (if true = true then te σ H Y else N H)
  rw [if_pos rfl]
  exact q
theorem r_tests1 {t : TT} {R : Bool → Hp → Prop} (q : t σ H fun b H1 => if b = true then R true H1 else R false H1) : tTests [t] σ H R := q
end
theorem flat_ints (ns : List Int) : (ns.map V.int).all flatV = true := by
  rw [List.all_eq_true]
  intro x hx
  obtain ⟨i, _, rfl⟩ := List.mem_map.mp hx
  rfl
theorem inV_ints (i : Int) (ns : List Int) : inV (.int i) (ns.map V.int) = decide (i ∈ ns) := by
  unfold inV
  rw [List.any_map, Bool.eq_iff_iff, List.any_eq_true, decide_eq_true_iff]
  constructor
  · rintro ⟨x, hx, e⟩
    have : x = i := by simpa [eqV] using e
    exact this ▸ hx
  · intro h
    exact ⟨i, h, by simp [eqV]⟩
theorem eqv_ints : ∀ ns ms : List Int, PyData.eqvAll (D.pyL (ns.map D.int)) (D.pyL (ms.map D.int)) = decide (ns = ms)
  | [], [] => by simp [D.pyL, PyData.eqvAll]
  | [], _ :: _ => by simp [D.pyL, PyData.eqvAll]
  | _ :: _, [] => by simp [D.pyL, PyData.eqvAll]
  | a :: r, b :: t => by
    simp only [List.map_cons, D.pyL, PyData.eqvAll, D.py, PyData.eqv, eqv_ints r t]
    rw [Bool.eq_iff_iff]
    simp
theorem eqD_ints_t (ns ms : List Int) : eqD (.tup (ns.map D.int)) (.tup (ms.map D.int)) = decide (ns = ms) := by
  unfold eqD; simp only [D.py, PyData.eqv]; exact eqv_ints ns ms
theorem eqOk_ints (ns : List Int) : D.eqOkL (ns.map D.int) = true := by
  induction ns with
  | nil => rfl
  | cons n r ih => show (D.eqOk (.int n) && D.eqOkL (r.map D.int)) = true; rw [ih]; rfl
theorem Rep.tupInts {H : Hp} {p : Addr} {ns : List Int} (h : H p = some (.tup (ns.map V.int))) : Rep H (.tup (ns.map D.int)) (.ref p) := Rep.tupI h (RepL.ints ns)
theorem r_eqTI {H : Hp} {Q : VK} {p q : Addr} {ns ms : List Int} (h1 : H p = some (.tup (ns.map V.int))) (h2 : H q = some (.tup (ms.map V.int))) (k : Q (.bl (decide (ns = ms))) H) : rEqU (.ref p) (.ref q) H Q :=
  r_eqD (Rep.tupInts h1) (Rep.tupInts h2) (eqOk_ints _) (eqOk_ints _) (by show D.depthL _ + 1 ≤ 20; rw [depthL_ints]; decide) (by rw [eqD_ints_t]; exact k)
theorem get_int {ns : List Int} {i : Nat} {x : V} (h : (ns.map V.int)[i]? = some x) : ∃ n, ns[i]? = some n ∧ x = .int n := by
  rw [List.getElem?_map] at h
  cases e : ns[i]? with
  | none => rw [e] at h; cases h
  | some n => rw [e] at h; cases h; exact ⟨n, rfl, rfl⟩
theorem atI_ints {ns : List Int} {k : Int} (h0 : 0 ≤ k) (h1 : k < ns.length) : atI (ns.map V.int) k = some (.int (ns.getD k.toNat 0)) := by
  refine atI_int h0 ?_
  rw [List.getElem?_map, List.getElem?_eq_getElem (by omega), List.getD_eq_getElem?_getD, List.getElem?_eq_getElem (by omega)]
  rfl
structure FunD (K : PySem.W.Frag) (x qual : Str) (st : Stmt) (f : Addr) (fd : FuncData) (ds : List Value) : Prop where
  ex : ∃ (oc : Value) (od : Option Addr) (T : Addr) (kV doc pm : Value) (an : Option Addr) (cdv ct : Value) (osl : Array (Option Value)) (tc : Value) (td : Option Addr) (tn : Nat) (tsl : Array (Option Value)),
    fd = PySem.W.fnOf x qual (defArgs st) (defBody st) (defScope st) (.ref T) kV doc pm an cdv ct ∧ K.lookup f = some ⟨oc, od, .func fd, osl⟩ ∧ PySem.W.codeIn K cdv qual = true ∧ K.lookup T = some ⟨tc, td, .seq ds.toArray tn, tsl⟩
  kp : PySem.W.keepIn K (.ref f) = true
structure IsC (K : PySem.W.Frag) (C B : Addr) : Prop where
  ha : PySem.W.findIn K (.ref C) "__class__" = some (some (.builtin "object.__class__"))
  hn : PySem.W.specialIn K (.builtin "object.__class__") "__get__" = some (some (.builtin "getset_descriptor.__get__"))
  htk : PySem.W.takesIn K (.builtin "object.__class__") = some true
  hm : PySem.W.mroIn K C (.type "object") = some true
  ki : PySem.W.kitOne K (.ref C) (.ref B) = some true
section
variable {K : PySem.W.Frag} {α β γ : Type} {te : TE} {acc : Addr} {fr : St} {H1 : Hp} {R : Hp → Prop}
theorem comp_mapR (mk : β → V) (f : Nat → β) {n : Nat} {u : Option V} (hz : n ≤ 1000000) (hn : H1 acc = none)
    (turn : ∀ (i : Nat) H (Y : V → Hp → Prop), i < n → Ext H1 H → (∀ H', Ext H H' → Y (mk (f i)) H') → te (some (.int (i : Nat)) :: fr) H Y)
    (fin : ∀ H, Ext H1 H → H acc = some (.lst (((List.range n).map f).map mk)) → R H) : rComp (Itr 0 n) (gName 0) [] te acc (u :: fr) H1 R := by
  refine comp_range hz hn (fun j ys _ => ys = ((List.range j).map f).map mk) rfl (fun _ _ _ _ _ h => h) (fun j ys H _ h => by rw [h]; simp) ?_ ?_
  · intro j ys H hj e h Y N hY hN
    rw [show ((0 : Int) + (j : Nat)) = (j : Nat) by omega]
    refine r_tests0 (turn j H Y hj e fun H' e' => hY _ _ e' ?_)
    rw [List.range_succ, h]
    simp
  · intro ys H e ha h
    refine fin H e ?_
    rw [ha, h]
theorem comp_someR (P : Int → Prop) {n : Nat} {u : Option V} (hz : n ≤ 1000000) (hn : H1 acc = none)
    (turn : ∀ (i : Nat) H (Y : V → Hp → Prop), i < n → Ext H1 H → (∀ x H', P x → Ext H H' → Y (.int x) H') → te (some (.int (i : Nat)) :: fr) H Y)
    (fin : ∀ (xs : List Int) H, xs.length = n → (∀ x ∈ xs, P x) → Ext H1 H → H acc = some (.lst (xs.map V.int)) → R H) : rComp (Itr 0 n) (gName 0) [] te acc (u :: fr) H1 R := by
  refine comp_range hz hn (fun j ys _ => ∃ xs : List Int, ys = xs.map V.int ∧ xs.length = j ∧ ∀ x ∈ xs, P x) ⟨[], rfl, rfl, by simp⟩ (fun _ _ _ _ _ h => h) (fun j ys H _ ⟨xs, h, l, _⟩ => by rw [h, List.length_map]; omega) ?_ ?_
  · rintro j ys H hj e ⟨xs, rfl, hl, hp⟩ Y N hY hN
    rw [show ((0 : Int) + (j : Nat)) = (j : Nat) by omega]
    refine r_tests0 (turn j H Y hj e fun x H' hx e' => hY _ _ e' ⟨xs ++ [x], by simp, by simp [hl], fun y hy => ?_⟩)
    rcases List.mem_append.mp hy with z | z
    · exact hp y z
    · rw [List.mem_singleton.mp z]; exact hx
  · rintro ys H e ha ⟨xs, rfl, hl, hp⟩
    exact fin xs H hl hp e ha
end
section
variable {X : Cx}
open Classical in
end
section
variable {X : Cx} {pins : List (Addr × Obj)} {σ : St} {H : Hp} {s : Shared} {h' : Heap} {n : Nat}
open Classical in
end
def XP (X : Cx) (pins : List (Addr × Obj)) (σ : St) (E : XK) (e : Value) (s : Shared) : Prop :=
  ∃ n H a C dx, e = .ref a ∧ X.s₀.heap.objs.size ≤ n ∧ (∀ p ∈ X.pn ++ pins, p.1 < n) ∧ Inv X pins σ H s ∧ Err n H s.heap a C dx .none ∧ E C dx H
structure Catch (K : PySem.W.Frag) (C L : Addr) : Prop where
  ex : ∃ bm bl, ErrC K C bm ∧ ErrC K L bl ∧ (Value.ref C :: bm).contains (.ref L) = true
open PySem.Builtin PySem.Builtin.ObjectAttr
structure ErrI (K : PySem.W.Frag) (C : Addr) : Prop where
  at_ : ∃ nm q N bs bm sn sub ab col dd k0 k1 k2 k3 k5 newId, K.lookup C = some (excClassObj nm q C N bs bm true sn sub ab col dd k0 k1 k2 k3 k5 newId) ∧ bm.contains (.type "BaseException") = true
  ga : PySem.W.findIn K (.ref C) "__getattribute__" = some (some (.builtin "BaseException.__getattribute__"))
  gh : PySem.W.findIn K (.ref C) "__getattr__" = some none
  ca : PySem.W.findIn K (.ref C) "__class__" = some (some (.builtin "object.__class__"))
  cn : PySem.W.specialIn K (.builtin "object.__class__") "__get__" = some (some (.builtin "getset_descriptor.__get__"))
  ct : PySem.W.takesIn K (.builtin "object.__class__") = some true
  cm : PySem.W.mroIn K C (.type "object") = some true
structure ErrK (K : PySem.W.Frag) (C : Addr) (bm : List Value) (f : Addr) : Prop where
  lk : ∃ nm q N bs sn sub ab col dd k0 k1 k2 k3 k5, K.lookup C = some (excClassObj nm q C N bs bm true sn sub ab col dd k0 k1 k2 k3 k5 "ValueError.__new__")
  init : PySem.W.findIn K (.ref C) "__init__" = some (some (.ref f))
  fn : PySem.W.isFn K (.ref f) = true
  kp : PySem.W.keepIn K (.ref C) = true
  set : PySem.W.findIn K (.ref C) "__setattr__" = some (some (.builtin "object.__setattr__"))
  row : PySem.W.findIn K (.ref C) "row" = some none
  ga : PySem.W.findIn K (.ref C) "__getattribute__" = some (some (.builtin "BaseException.__getattribute__"))
  gh : PySem.W.findIn K (.ref C) "__getattr__" = some none
  ca : PySem.W.findIn K (.ref C) "__class__" = some (some (.builtin "object.__class__"))
  cn : PySem.W.specialIn K (.builtin "object.__class__") "__get__" = some (some (.builtin "getset_descriptor.__get__"))
  ct : PySem.W.takesIn K (.builtin "object.__class__") = some true
  cm : PySem.W.mroIn K C (.type "object") = some true
section
variable {K : PySem.W.Frag} {σ : St} {H : Hp} {Q : VK}
theorem flat_one {α : Type} (x : α) : ∀ k : Nat, (List.replicate k [x]).flatten = List.replicate k x
  | 0 => rfl
  | k + 1 => by rw [List.replicate_succ, List.flatten_cons, flat_one x k, List.replicate_succ]; rfl
theorem r_rep1 {l : Addr} {x : V} {k : Int} (h : H l = some (.lst [x])) (k0 : 0 ≤ k) (k1 : k ≤ 1000000) (q : ∀ p H', H p = none → H' p = some (.lst (List.replicate k.toNat x)) → Ext H H' → Q (.ref p) H') : rRep (.ref l) (.int k) H Q :=
  ⟨l, k, [x], rfl, rfl, h, by omega, by omega, by rw [sizeLine_eq]; show 1 * k.toNat ≤ _; omega, fun p n => q p _ n (by rw [flat_one]; exact upd_same) (ext_upd n)⟩
end
theorem iteTc {c : Bool} {A B : Prop} (h : c = true) (q : A) : if c = true then A else B := by rw [h]; exact iteT q
theorem iteFc {c : Bool} {A B : Prop} (h : c = false) (q : B) : if c = true then A else B := by rw [h]; exact iteF q
structure RoomW (k : Nat) (A : Around) : Prop where
  dp : A.depth + 3 * k + 5 < recursionLimit
  un : A.units + 16 * k + 200 < cLine
structure FnOkW (P : Program) (w : World) (K : PySem.W.Frag) (mg : Str → Option Value) (base : Heap) (CX : CXT) (k : Nat) (f : Addr) (fd : FuncData) (ps : List Str) (sp : Sp) : Prop where
  len : ∀ vs H Q E, sp vs H Q E → vs.length = ps.length
  run : ∀ (A : Around) (outer : List Env) (s : Shared) (H : Hp) (args : Args) (us : List Value) (vs : List V) (Q : VK) (E : XK), RoomW k A → Env0 P w K mg base A outer s H → BindsTo s fd args (ps.zip us) → Vals vs us → sp vs H Q E →
    codeAny (model P w) A (.call (.ref f) args) (CR CX outer P w H s Q E) s
def mulS (x : Str) (n : Nat) : Str := ⟨((List.replicate n x.cps.toList).flatten).toArray⟩
theorem mulS_len (x : Str) (n : Nat) : (mulS x n).length = n * x.length := by
  show ((List.replicate n x.cps.toList).flatten).toArray.size = _
  rw [List.size_toArray, len_rep]
  rfl
theorem foldA (its : List Nat) : ∀ (k : Nat) (acc : List Nat), List.foldl (fun x1 x2 => x1 ++ x2) acc.toArray (List.replicate k its.toArray) = (acc ++ (List.replicate k its).flatten).toArray
  | 0, acc => by simp
  | k + 1, acc => by
    rw [List.replicate_succ, List.foldl_cons, show acc.toArray ++ its.toArray = (acc ++ its).toArray by simp, foldA its k (acc ++ its), List.replicate_succ, List.flatten_cons, List.append_assoc]
theorem txt_mul (x : Str) (n : Nat) : Txt.mul x n = mulS x n := by
  unfold Txt.mul mulS
  by_cases h1 : (n : Int) < 1
  · have : n = 0 := by omega
    subst this
    rfl
  · rw [if_neg h1]
    by_cases h2 : ((n : Int) == 1 || x.length == 0) = true
    · rw [if_pos h2]
      rw [Bool.or_eq_true, beq_iff_eq, beq_iff_eq] at h2
      rcases h2 with h2 | h2
      · have : n = 1 := by omega
        subst this
        simp
      · have e : x.cps.toList = [] := by
          have : x.cps.toList.length = 0 := h2
          exact List.length_eq_zero_iff.mp this
        have e2 : x.cps = #[] := by rw [← Array.toArray_toList (xs := x.cps), e]
        rw [e]
        have : (List.replicate n ([] : List Nat)).flatten = [] := by simp
        rw [this, ← e2]
    · rw [if_neg h2, Int.toNat_natCast]
      have := foldA x.cps.toList n []
      simp only [Array.toArray_toList, List.nil_append] at this
      rw [← this]
section
variable {X : Cx}
def rAddS : R2 := fun x y H Q => ∃ i j, x = .str i ∧ y = .str j ∧ i.length + j.length ≤ sizeLine ∧ Q (.str (i ++ j)) H
def rAddW (K : PySem.W.Frag) : R2 := fun x y H Q => rAddV K x y H Q ∨ rAddS x y H Q
theorem oAddW : OpR X (binaryOp .Add) (rAddW X.K) := oAddV.or op_add_str
def rMulS : R2 := fun x y H Q => ∃ (i : Str) (k : Int), x = .str i ∧ y = .int k ∧ 0 ≤ k ∧ k ≤ 1000 ∧ i.length ≤ 1000 ∧ Q (.str (mulS i k.toNat)) H
theorem op_mulS : OpR X (binaryOp .Mult) rMulS := by
  intro pins s σ H x y v u Q I rx ry h
  obtain ⟨i, k, rfl, rfl, k0, k1, hl, q⟩ := h
  obtain ⟨t, rfl⟩ := rx
  obtain ⟨t', rfl⟩ := ry
  obtain ⟨n, rfl⟩ : ∃ n : Nat, k = n := ⟨k.toNat, by omega⟩
  rw [Int.toNat_natCast] at q
  refine SB.mul ⟨?_, fun h1 _ => ?_, fun _ _ => ?_⟩ fun t2 tk => ⟨.str (mulS i n), H, I.tok _, ⟨t2, by rw [txt_mul]⟩, q⟩
  · rw [Bool.or_eq_false_iff, decide_eq_false_iff_not, decide_eq_false_iff_not]; omega
  · have h3 : (i.length : Int) * n ≤ 1000000 := by
      have : i.length * n ≤ 1000 * 1000 := Nat.mul_le_mul hl (by omega)
      have := Int.ofNat_le.mpr this
      rw [Int.natCast_mul] at this
      omega
    have h4 : (i.length : Int) ≤ (2 ^ 63 - 1) / n := Int.le_ediv_of_mul_le (by omega) (by omega)
    omega
  · rw [Int.toNat_natCast]
    unfold Builtin.Str.tooLong
    have : i.length * n ≤ 1000 * 1000 := Nat.mul_le_mul hl (by omega)
    rw [decide_eq_false_iff_not, sizeLine_eq]
    omega
def rMulW : R2 := fun x y H Q => rI CMulB (fun i j => .int (i * j)) x y H Q ∨ rMulS x y H Q
theorem oMulW : OpR X (binaryOp .Mult) rMulW := op_mulB.or op_mulS
def rLeS : R2 := fun x y H Q => ∃ i j, x = .str i ∧ y = .str j ∧ Q (.bl (!decide (j.cps.toList < i.cps.toList))) H
theorem op_leS : OpR X (compareOp .LtE) rLeS := by
  intro pins s σ H x y v u Q I rx ry h
  obtain ⟨i, j, rfl, rfl, q⟩ := h
  obtain ⟨t, rfl⟩ := rx
  obtain ⟨t', rfl⟩ := ry
  exact PySem.P.le_str ⟨.bl _, H, I, rfl, q⟩
def rLeW : R2 := fun x y H Q => rI0 (fun i j => .bl (decide (i ≤ j))) x y H Q ∨ rLeS x y H Q
theorem oLeW : OpR X (compareOp .LtE) rLeW := op_le.or op_leS
def rLenW (K : PySem.W.Frag) : List V → Hp → VK → Prop := fun xs H Q => rLen K xs H Q ∨ ∃ z : Str, xs = [.str z] ∧ z.length ≤ sizeLine ∧ Q (.int z.length) H
theorem cLenW : CallR X (.builtin "len") (rLenW X.K) := cLen.or call_len_str
end
def AscS (x : Str) : Prop := x.cps.all (· < 128) = true
theorem strs_at : ∀ {ss : List Str} {us : List Value}, Vals (ss.map V.str) us → ∀ (i : Nat) (v : Value), us[i]? = some v → ∃ x t, ss[i]? = some x ∧ v = .str x t
  | [], us, r, i, v, h => by cases r; simp at h
  | x :: ss, us, r, i, v, h => by
    cases r with
    | cons r1 r2 =>
      cases i with
      | zero =>
        obtain ⟨t, e⟩ := r1
        simp at h
        exact ⟨x, t, rfl, by rw [← h, e]⟩
      | succ i => exact strs_at r2 i v (by simpa using h)
theorem strsAre_of : ∀ {ss : List Str} {us : List Value}, Vals (ss.map V.str) us → StrsAre us ss
  | [], us, r => by cases r; exact .nil
  | x :: ss, us, r => by
    cases r with
    | cons r1 r2 =>
      obtain ⟨t, e⟩ := r1
      subst e
      exact .cons x t (strsAre_of r2)
theorem vals_strs : ∀ {us : List Value} {ss : List Str}, StrsAre us ss → Vals (ss.map V.str) us
  | _, _, .nil => .nil
  | _, _, .cons x t h => .cons ⟨t, rfl⟩ (vals_strs h)
section
variable {prog : Program} {w : World} {A : Around} {E : Value → Shared → Prop} {s : Shared}
theorem sortedSA {b : Bool} {l : Addr} {vs : List Value} {ss : List Str} {Q : Value → Shared → Prop} (hl : SqA b s.heap l vs.toArray) (hz : vs.length ≤ sizeLine) (hS : StrsAre vs ss) (h64 : vs.length < 64)
    (h : ∀ (out : Array Value) (ss' : List Str), StrsAre out.toList ss' → ss'.Perm ss → sortedS ss' = true → Q (.ref (s.heap.objs.size + 1)) { s with heap := sortedAll s.heap vs out }) : wpAny (model prog w) A (call (.builtin "sorted") [.ref l]) Q E s := by
  refine Calls.call_function_entry kind_sorted plain_sorted entry_sorted (args_sorted1 _) ?_; unfold Builtin.«sorted»
  refine wpAny_bind (m := checkCount "sorted" 1 1 _) (wpAny_pure (wpAny_bind (collectA hl hz (wpAny_bind (wpAny_newList ?_)))))
  have n1 : ((s.heap.push (seqObj "list" #[] 0)).update s.heap.objs.size (Obj.mapSeq (· ++ vs.toArray))).objs.size = s.heap.objs.size + 1 := by rw [Heap.size_update, size_push']
  have o1 : (((s.heap.push (seqObj "list" #[] 0)).update s.heap.objs.size (Obj.mapSeq (· ++ vs.toArray))).push (seqObj "list" vs.toArray 0)).get? (s.heap.objs.size + 1) = some (seqObj "list" vs.toArray 0) := by rw [← n1]; exact Heap.get?_push_size _ rfl
  show wpAny _ _ _ _ _ { s with heap := ((s.heap.push (seqObj "list" #[] 0)).update s.heap.objs.size (Obj.mapSeq (· ++ vs.toArray))).push (seqObj "list" vs.toArray 0) }; rw [n1]
  refine wpAny_bind (wpAny_holding (wpAny_call_entry slot_list_sort ⟨_, o1, rfl⟩ entry_list_sort (list_sort_treeK strKind_oneLt o1 hS.keysOf (fun v₁ v₂ rest e => keyKind_strs (by rw [← e]; exact hS)) h64 fun st' a1 a2 => ⟨_, rfl, ?_⟩) (args_list_sort _)))
  obtain ⟨ss', e1, e2, e3⟩ := sorted_out_str hS a1 a2
  exact wpAny_pure ⟨_, rfl, h _ ss' e1 e2 e3⟩
end
section
variable {X : Cx}
def rSortS (K : PySem.W.Frag) : List V → Hp → VK → Prop := fun xs H Q => ∃ (p : Addr) (ss : List Str) (c : Bool), xs = [.ref p] ∧ SqE K H p (ss.map V.str) c ∧ ss.length < 64 ∧ ∀ l (ss' : List Str), H l = none → ss'.Perm ss → sortedS ss' = true → Q (.ref l) (upd H l (.lst (ss'.map V.str)))
theorem cSortS : CallR X (.builtin "sorted") (rSortS X.K) := by
  intro pins s σ H xs us Q I r h
  obtain ⟨p, ss, c, rfl, hq, h64, q⟩ := h
  obtain ⟨u, rfl, rx⟩ := vals1 r
  cases rx
  obtain ⟨its, r', pl, hz⟩ := I.sqe hq
  have hlen := r'.length
  rw [List.length_map] at hlen hz
  refine sortedSA pl (by omega) (strsAre_of r') (by omega) fun out ss' a1 a2 a3 => ?_
  obtain ⟨e, he⟩ := sortedAll_at s.heap its out
  refine ⟨.ref (s.heap.objs.size + 1), _, I.laid (t' := s.toks) (fun b o q => sortedAll_old q) (Nat.le_succ _) (show ObjOk X.prog X.w _ _ _ (.lst (ss'.map V.str)) from ⟨by rw [List.length_map, a2.length_eq]; exact hz, out.toList, e, vals_strs a1, by simpa using he⟩), rfl, q _ ss' (I.hok.fresh (Nat.le_succ _)) a2 a3⟩
def rSortW (K : PySem.W.Frag) : List V → Hp → VK → Prop := fun xs H Q => rSorted K xs H Q ∨ rSortS K xs H Q
theorem cSortW : CallR X (.builtin "sorted") (rSortW X.K) := cSorted.or cSortS
end
section
variable {prog : Program} {w : World} {A : Around} {E : Value → Shared → Prop} {s : Shared}
theorem tup_index (l : Addr) (xs : Array Value) (x : Value) (e : Value → Bool) (j : Nat) (hj : j < xs.size) (hit : e xs[j] = true) (hno : ∀ m (hm : m < xs.size), m < j → e xs[m] = false) :
    Meets (Builtin.«tuple.index» ⟨[.ref l, x], []⟩) (fun A R s => IsTup s.heap l xs ∧ (∀ y, y ∈ xs → SeqAt.EqAt A.in1 s y x (e y)) ∧ R (.ok (.ret (.int j s.toks))) { s with toks := s.toks + 1 }) := by
  intro prog w A R s h
  obtain ⟨hl, he, h⟩ := h
  unfold Builtin.«tuple.index»
  refine wpAny_bind (wpAny_of_eq (a := (Value.ref l, [x])) rfl ?_)
  show wpAny _ _ (Builtin.Tuple.tupleItemsOf (.ref l) >>= _) _ _ s
  refine wpAny_bind (tupleItemsOf_ hl ?_)
  skip; refine wpAny_bind (wpAny_pure (wpAny_bind (wpAny_pure ?_)))
  dsimp only
  rw [Nat.min_self]
  have loop : ∀ (k i : Nat) (s : Shared) (f : Nat → Option PySem.Fin × Unit → Sem (ForInStep (Option PySem.Fin × Unit))) (Q : Option PySem.Fin × Unit → Shared → Prop) (E : Value → Shared → Prop), i + k = xs.size → i ≤ j → (∀ y, y ∈ xs → SeqAt.EqAt A.in1 s y x (e y)) →
      (∀ i st, f i st = (match xs[i]? with
        | some y => do
          if ← eqBool y x then do
            let r ← retInt i
            pure (ForInStep.done (some r, ()))
          else pure (ForInStep.yield (none, ()))
        | _ => pure (ForInStep.yield (none, ())))) → Q (some (.done (.ret (.int j s.toks))), ()) { s with toks := s.toks + 1 } → wpAny (model prog w) A.in1 (forIn (List.range' i k) (none, ()) f) Q E s := by
    intro k
    induction k with
    | zero => intro i s f Q E hk hi; omega
    | succ k ih =>
      intro i s f Q E hk hi he hf q
      have hlt : i < xs.size := by omega
      rw [List.range'_succ, List.forIn_cons, hf, Array.getElem?_eq_getElem hlt]
      refine wpAny_bind (wpAny_bind (he _ (Array.getElem_mem hlt) prog w _ _ ?_))
      by_cases hij : i = j
      · subst hij
        rw [hit]
        exact wpAny_bind (wpAny_bind (wpAny_mkInt (wpAny_pure (wpAny_pure (wpAny_pure q)))))
      · rw [hno i hlt (by omega)]
        exact wpAny_pure (ih (i + 1) s f Q E (by omega) (by omega) he hf q)
  skip; rw [Std.Legacy.Range.forIn_eq_forIn_range']
  rw [show List.range' ([:xs.size] : Std.Legacy.Range).start ([:xs.size] : Std.Legacy.Range).size ([:xs.size] : Std.Legacy.Range).step = List.range' 0 xs.size by simp [Std.Legacy.Range.size]]
  refine wpAny_bind (loop xs.size 0 s _ _ _ (by omega) (Nat.zero_le _) he (fun _ _ => rfl) (wpAny_pure h))
end
section
variable {X : Cx}
def tTM (r : V → List V → Hp → VK → Prop) (to : TE) (t : TA) : TE := fun σ H Q => to σ H fun x H1 => (∃ p xs, x = .ref p ∧ H1 p = some (.tup xs)) ∧ t σ H1 fun vs H2 => r x vs H2 Q
theorem pe_tm {o e : Expr} {es : List Expr} {name : Str} {id : String} {apos cpos : Pos} {r : V → List V → Hp → VK → Prop} {to : TE} {t : TA} (pa : PlainAttrs "tuple") (slot : Slot "tuple" name id) (hty : typeOf (.builtin id) = pure (.type "method_descriptor")) (hm : MtM X id r) (ho : PE X o to) (ha : PA X (e :: es) t)
    (hbase : attributeBase o name X.env (eval o X.env) = eval o X.env := by rfl)
    (hfew : ((backTo cpos (starEach (e :: es) X.env)).all (fun x => !x.1) && (backToKw cpos (keywordEach [] X.env)).all (fun x => x.1.isSome)
      && decide ((e :: es).length + ([] : List Keyword).length + (if ([] : List Keyword).isEmpty then 0 else 1) < 30)) = true := by rfl)
    (hline : (apos.endLine == cpos.line) = true := by rfl) (hs : starEach (e :: es) X.env = (false, eval e X.env) :: starEach es X.env := by rfl) (hplain : (backTo cpos (starEach es X.env)).any (·.1) = false := by rfl) :
    PE X (.Call (.Attribute o name apos) (e :: es) [] cpos) (tTM r to t) := by
  intro pins s σ H Q I h
  refine wpAny_Call_method_late hbase hfew hline rfl (thn (ho pins s σ H _ I h) fun v s1 ⟨x, H1, I1, r1, ⟨p, xs, ex, hp⟩, q1⟩ => ?_)
  subst ex
  cases r1
  obtain ⟨_, its, _, it, od, f, d⟩ := (show ObjOk X.prog X.w H1 s1.heap p (.tup xs) from I1.hok p _ hp)
  refine ⟨"tuple", id, pa, slot, hty, it.typeIs, fun a e => by cases e; exact ⟨od, f, d⟩, ?_⟩
  have hA := ha cpos pins s1 σ H1 _ I1 q1
  rw [hs] at hA ⊢
  refine Calls.callWith_builtin (by show (false || (backTo cpos (starEach es X.env)).any (·.1)) = false; rw [hplain] <;> rfl) (Calls.evalArgs_plain ?_)
  exact thn hA fun us s2 ⟨vs, H2, I2, r2, q2⟩ => hm pins s2 σ H2 (.ref p) vs (.ref p) us Q I2 rfl r2 q2
def isS (k : Str) : Value → Bool
  | .str z _ => z == k
  | _ => false
def rTIx : V → List V → Hp → VK → Prop := fun x vs H Q => ∃ (p : Addr) (ss : List Str) (k : Str), x = .ref p ∧ vs = [.str k] ∧ H p = some (.tup (ss.map V.str)) ∧ k ∈ ss ∧ ss.length ≤ 1000000 ∧ Q (.int (ss.idxOf k : Nat)) H
theorem mt_tindex : MtM X "tuple.index" rTIx := by
  intro pins s σ H x vs v us Q I rx rv h
  obtain ⟨p, ss, k, rfl, rfl, hp, hk, hz, q⟩ := h
  cases rx
  obtain ⟨u, rfl, t, rfl⟩ := rv.one
  obtain ⟨_, its, r, it, _⟩ := (show ObjOk X.prog X.w H s.heap p (.tup (ss.map V.str)) from I.hok p _ hp)
  have hl := r.length
  rw [List.length_map] at hl
  have hj : ss.idxOf k < ss.length := List.idxOf_lt_length_iff.mpr hk
  have at_ : ∀ (m : Nat) (hm : m < its.toArray.size), isS k its.toArray[m] = (ss[m]'(by rw [List.size_toArray] at hm; omega) == k) := fun m hm => by
    have hm' : m < its.length := by rw [List.size_toArray] at hm; exact hm
    obtain ⟨z, t', h1, h2⟩ := strs_at r m its[m] (List.getElem?_eq_getElem hm')
    rw [List.getElem?_eq_getElem (show m < ss.length by omega)] at h1
    have h2' : its.toArray[m] = .str z t' := by simpa using h2
    rw [h2']
    injection h1 with h1
    rw [h1]
    rfl
  refine call_meets F.slot_tuple_index it.typeIs F.entry_tuple_index (F.args_tuple_index_2 _ _) (tup_index p its.toArray (.str k t) (isS k) (ss.idxOf k) (by rw [List.size_toArray]; omega) ?_ ?_) ⟨it, fun y hy => ?_, ?_⟩
  · rw [at_, List.getElem_idxOf hj]; exact beq_self_eq_true k
  · intro m hm h2
    rw [at_]
    exact List.not_of_lt_findIdx h2
  · obtain ⟨m, hm, e⟩ := List.getElem_of_mem (show y ∈ its by simpa using hy)
    obtain ⟨z, t', _, h2⟩ := strs_at r m y (by rw [← e]; exact List.getElem?_eq_getElem hm)
    rw [h2]
    exact SeqAt.EqAt.str_str z t' k t
  · exact ⟨.int (ss.idxOf k : Nat), H, I.tok _, ⟨_, rfl⟩, q⟩
end
section
variable {K : PySem.W.Frag} {σ : St} {H : Hp} {Q : VK}
theorem r_tm {r : V → List V → Hp → VK → Prop} {to : TE} {t : TA} (q : to σ H fun x H1 => (∃ p xs, x = .ref p ∧ H1 p = some (.tup xs)) ∧ t σ H1 fun vs H2 => r x vs H2 Q) : tTM r to t σ H Q := q
theorem r_tyT {p : Addr} {xs : List V} {R : Prop} (h : H p = some (.tup xs)) (q : R) : (∃ p' xs', V.ref p = .ref p' ∧ H p' = some (.tup xs')) ∧ R := ⟨⟨p, xs, rfl, h⟩, q⟩
theorem r_tindex {p : Addr} {ss : List Str} {k : Str} (h : H p = some (.tup (ss.map V.str))) (hk : k ∈ ss) (hz : ss.length ≤ 1000000) (q : Q (.int (ss.idxOf k : Nat)) H) : rTIx (.ref p) [.str k] H Q := ⟨p, ss, k, rfl, rfl, h, hk, hz, q⟩
theorem r_addWI {i j : Int} (q : Q (.int (i + j)) H) : rAddW K (.int i) (.int j) H Q := .inl (r_addV q)
theorem r_addWS {i j : Str} (h : i.length + j.length ≤ 1000000) (q : Q (.str (i ++ j)) H) : rAddW K (.str i) (.str j) H Q := .inr ⟨i, j, rfl, rfl, by rw [sizeLine_eq]; omega, q⟩
theorem r_addWL {l b : Addr} {xs zs : List V} (h1 : H l = some (.lst xs)) (h2 : H b = some (.lst zs)) (hl : xs.length + zs.length ≤ 1000000) (q : ∀ p H', H p = none → H' p = some (.lst (xs ++ zs)) → Ext H H' → Q (.ref p) H') : rAddW K (.ref l) (.ref b) H Q := .inl (r_catL h1 h2 hl q)
theorem r_addWT {l b : Addr} {xs zs : List V} (h1 : H l = some (.tup xs)) (h2 : H b = some (.tup zs)) (hl : xs.length + zs.length ≤ 1000000) (q : ∀ p H', H' p = some (.tup (xs ++ zs)) → Ext H H' → Q (.ref p) H') : rAddW K (.ref l) (.ref b) H Q := .inl (r_catT h1 h2 hl q)
theorem r_mulWI {i j : Int} (c : CMulB i j) (q : Q (.int (i * j)) H) : rMulW (.int i) (.int j) H Q := .inl (r_I c q)
theorem r_mulWS {i : Str} {k : Int} (k0 : 0 ≤ k) (k1 : k ≤ 1000) (h : i.length ≤ 1000) (q : Q (.str (mulS i k.toNat)) H) : rMulW (.str i) (.int k) H Q := .inr ⟨i, k, rfl, rfl, k0, k1, h, q⟩
theorem r_leWI {i j : Int} (q : Q (.bl (decide (i ≤ j))) H) : rLeW (.int i) (.int j) H Q := .inl (r_I0 q)
theorem r_lenWL {p : Addr} {xs : List V} (h : H p = some (.lst xs)) (q : Q (.int xs.length) H) : rLenW K [.ref p] H Q := .inl (r_lenL h q)
theorem r_lenWT {p : Addr} {xs : List V} (h : H p = some (.tup xs)) (q : Q (.int xs.length) H) : rLenW K [.ref p] H Q := .inl (r_lenT h q)
theorem r_lenWQ {p : Addr} {xs : List V} (h : SqL K H p xs) (q : Q (.int xs.length) H) : rLenW K [.ref p] H Q := .inl (r_lenS h q)
theorem r_ixS1 {z : Str} {i : Int} {c : Nat} (h : z.length ≤ 1000000) (e : atI z.cps.toList i = some c) (q : Q (.str ⟨#[c]⟩) H) : rIx K (.str z) (.int i) H Q := .inr (.inr ⟨z, i, c, rfl, rfl, by rw [sizeLine_eq]; omega, e, q⟩)
theorem r_sortWT {p : Addr} {ss : List Str} (h : H p = some (.tup (ss.map V.str))) (hl : ss.length < 64) (q : ∀ l (ss' : List Str) H', H l = none → ss'.Perm ss → sortedS ss' = true → H' l = some (.lst (ss'.map V.str)) → Ext H H' → Q (.ref l) H') : rSortW K [.ref p] H Q :=
  .inr ⟨p, ss, true, rfl, SqT.of h, hl, fun l ss' n h1 h2 => q l ss' _ n h1 h2 upd_same (ext_upd n)⟩
end
section
variable {K : PySem.W.Frag} {H : Hp} {Q : V → Hp → Prop}
theorem r_sortWL {p : Addr} {ss : List Str} (h : H p = some (.lst (ss.map V.str))) (hl : ss.length < 64) (q : ∀ l (ss' : List Str) H', H l = none → ss'.Perm ss → sortedS ss' = true → H' l = some (.lst (ss'.map V.str)) → Ext H H' → Q (.ref l) H') : rSortW K [.ref p] H Q :=
  .inr ⟨p, ss, false, rfl, SqL.of h, hl, fun l zs n hp ho => q l zs _ n hp ho upd_same (ext_upd n)⟩
end
section
variable {prog : Program} {w : World} {A : Around} {E : Value → Shared → Prop} {s : Shared}
theorem tuple_whole {t sl : Addr} {items : Array Value} {vl vu : Value} {lo hi : Option Int} {Q : Value → Shared → Prop} (ht : IsTup s.heap t items) (hs : s.heap.IsSliceOf sl vl vu .none) (pl : IsPart vl lo) (pu : IsPart vu hi)
    (hw : HT.sIx items.size 0 lo = 0 ∧ HT.sIx items.size items.size hi = items.size) (h : Q (.ref t) s) : wpAny (model prog w) A (getItem (.ref t) (.ref sl)) Q E s := by
  obtain ⟨os, hos, hcs, hds⟩ := id hs
  have hTs : s.TypeIs (.ref sl) "slice" := ⟨os, hos, hcs⟩
  unfold getItem
  try with_reducible refine wpAny_holding ?_
  first | refine wpAny_bind (wpAny_pure ?_) | skip
  skip; refine wpAny_bind (wpAny_sequenceKey ht.typeIs (by decide) ?_)
  refine wpAny_bind (wpAny_callSpecial?_slot (name := Str.ofString "__getitem__") ht.typeIs slot_tuple_getitem (wpAny_call_entry slot_tuple_getitem ht.typeIs entry_tuple_getitem ?_ (args_tuple_getitem _ _)))
  show wpAny _ _ (Builtin.Tuple.tupleItemsOf (.ref t) >>= _) _ _ s
  skip; refine wpAny_bind (tupleItemsOf_ ht ?_)
  skip; refine wpAny_bind (wpAny_typeOf hTs ?_)
  rw [if_pos (by decide)]
  skip; refine wpAny_bind (HT.sliceApplied_gen hs pl pu ?_)
  have hyes : (((HT.sIx items.size 0 lo : Nat) : Int) == 0 && (1 : Int) == 1 && (HT.sIx items.size items.size hi - HT.sIx items.size 0 lo) == items.size) = true := by
    rw [hw.1, hw.2]
    simp
  show wpAny _ _ (if (((HT.sIx items.size 0 lo : Nat) : Int) == 0 && (1 : Int) == 1 && (HT.sIx items.size items.size hi - HT.sIx items.size 0 lo) == items.size) = true then _ else _) _ _ s
  rw [if_pos hyes]
  refine wpAny_bind (wpAny_bind (wpAny_typeOf ht.typeIs (wpAny_pure ?_)))
  rw [if_pos (by decide)]
  first
    | exact wpAny_bind (wpAny_rule (wpAny_bind (wpAny_pure (wpAny_pure ⟨_, rfl, wpAny_pure h⟩))))
    | exact wpAny_bind (wpAny_pure (wpAny_bind (wpAny_pure (wpAny_pure ⟨_, rfl, wpAny_pure h⟩))))
    | exact wpAny_bind (wpAny_rule (wpAny_pure ⟨_, rfl, wpAny_pure h⟩))
end
section
variable {X : Cx}
def rSlW (K : PySem.W.Frag) : V → Option Int → Option Int → Hp → VK → Prop := fun x lo hi H Q => ∃ a xs, x = .ref a ∧ SqT K H a xs ∧ (HT.sIx xs.length 0 lo = 0 ∧ HT.sIx xs.length xs.length hi = xs.length) ∧ Q (.ref a) H
theorem sl_whole : SlR X (rSlW X.K) := by
  intro pins s σ H x v vl vu lo hi sl Q I rx hs pl pu h
  obtain ⟨a, xs, rfl, hx, hw, q⟩ := h
  cases rx
  obtain ⟨its, r, ht, hz⟩ := I.tuple hx
  have hlen : its.toArray.size = xs.length := by rw [List.size_toArray]; exact r.length.symm
  refine ⟨"tuple", _, slot_tuple_getitem.lookup, ht.typeIs, ?_⟩
  exact tuple_whole ht hs pl pu (by rw [hlen]; exact hw) ⟨.ref a, H, I, rfl, q⟩
def rSlS : V → Option Int → Option Int → Hp → VK → Prop := fun x lo hi H Q => ∃ z : Str, x = .str z ∧ z.length ≤ 1000000 ∧ ∀ z' : Str, (∀ c ∈ z'.cps.toList, c ∈ z.cps.toList) → z'.length ≤ z.length → Q (.str z') H
theorem sl_str : SlR X rSlS := by
  intro pins s σ H x v vl vu lo hi sl Q I rx hs pl pu h
  obtain ⟨z, rfl, hz, q⟩ := h
  obtain ⟨t, rfl⟩ := rx
  refine ⟨"str", _, F.slot_str_getitem.lookup, typeIs_str _ _ _, ?_⟩
  have part : ∀ {v : Value} {o : Option Int}, IsPart v o → ∃ l : Option (Int × Tok), v = partValue l ∧ l.map (·.1) = o := fun p => by
    cases p with
    | none => exact ⟨none, rfl, rfl⟩
    | int i t => exact ⟨some (i, t), rfl, rfl⟩
  obtain ⟨l, e1, _⟩ := part pl
  obtain ⟨u, e2, _⟩ := part pu
  have hs' : s.heap.IsSlice sl l u none := by
    obtain ⟨o, h1, h2, h3⟩ := hs
    exact ⟨o, h1, h2, by rw [h3, e1, e2]; rfl⟩
  refine wpAny_getItem_str_slice hs' rfl ?_
  unfold sliceMade
  split
  · exact ⟨.str z, H, I, ⟨t, rfl⟩, q z (fun c hc => hc) (Nat.le_refl _)⟩
  · have hle : ((slicePicked z l u none).filterMap (z.cps[·]?)).length ≤ z.length := Nat.le_trans (List.length_filterMap_le _ _) (sliceIndices_le _ _ _)
    refine ⟨?_, .str _, H, I.tok _, ⟨_, rfl⟩, q _ (fun c hc => ?_) ?_⟩
    · rw [sizeLine_eq]
      show ((slicePicked z l u none).filterMap (z.cps[·]?)).toArray.size ≤ _
      rw [List.size_toArray]
      omega
    · have hc' : c ∈ (slicePicked z l u none).filterMap (z.cps[·]?) := by simpa using hc
      obtain ⟨i, _, hi⟩ := List.mem_filterMap.mp hc'
      have := Array.mem_of_getElem? hi
      simpa using this
    · show ((slicePicked z l u none).filterMap (z.cps[·]?)).toArray.size ≤ _
      rw [List.size_toArray]
      exact hle
def rSlV (K : PySem.W.Frag) : V → Option Int → Option Int → Hp → VK → Prop := fun x lo hi H Q => (rSlU K x lo hi H Q ∨ rSlW K x lo hi H Q) ∨ rSlS x lo hi H Q
theorem oSlV : SlR X (rSlV X.K) := (oSl.or sl_whole).or sl_str
theorem cut_whole {xs : List V} {lo hi : Option Int} (h : HT.sIx xs.length 0 lo = 0 ∧ HT.sIx xs.length xs.length hi = xs.length) : cutV xs lo hi = xs := by
  unfold cutV
  rw [h.1, h.2, List.drop_zero, Nat.sub_zero, List.take_length]
variable {o i value : Expr} {pos pos' : Pos} {td ty tv : TE}
end
section
variable {K : PySem.W.Frag} {σ : St} {H : Hp} {Q : VK} {td ty tv : TE}
theorem r_slA {p : Addr} {xs : List V} {lo hi : Option Int} (h : H p = some (.tup xs)) (q : ∀ l H', H' l = some (.tup (cutV xs lo hi)) → Ext H H' → Q (.ref l) H') : rSlV K (.ref p) lo hi H Q := by
  by_cases c : HT.sIx xs.length 0 lo = 0 ∧ HT.sIx xs.length xs.length hi = xs.length
  · exact .inl (.inr ⟨p, xs, rfl, SqT.of h, c, q p H (by rw [cut_whole c]; exact h) Ext.rfl'⟩)
  · exact .inl (.inl (r_slT h c fun l H' _ h1 h2 => q l H' h1 h2))
end
section
variable {X : Cx}
def tOr2 (t u : TE) : TE := fun σ H Q => t σ H Q ∨ u σ H Q
theorem pe_or2 {e : Expr} {t u : TE} (h1 : PE X e t) (h2 : PE X e u) : PE X e (tOr2 t u) := fun pins s σ H Q I h => h.elim (fun z => h1 pins s σ H Q I z) fun z => h2 pins s σ H Q I z
theorem r_or2L {t u : TE} {σ : St} {H : Hp} {Q : VK} (q : t σ H Q) : tOr2 t u σ H Q := .inl q
theorem r_or2R {t u : TE} {σ : St} {H : Hp} {Q : VK} (q : u σ H Q) : tOr2 t u σ H Q := .inr q
end
def byT (w : World) : Bool := w.params.followText "set-order"
structure Rise (t : SetTable) (n : Nat) (sl : Nat → Nat) : Prop where
  fits : t.fits n = true
  plain : t.plain = true
  zero : sl 0 = 0
  low : ∀ i, i ≤ n → SetTable.below t.place (sl i) = i
  step : ∀ i, i < n → ∃ j, t.place[i]? = some j ∧ j + 1 = sl (i + 1)
def numsN (n : Nat) : List Int := (List.range n).map fun (i : Nat) => (i : Int)
theorem numsN_len (n : Nat) : (numsN n).length = n := by unfold numsN; rw [List.length_map, List.length_range]
theorem items_ints {acc : Array Value} {n : Nat} (h : ItemsOf (fun i v => ∃ t, v = .int (0 + (i : Nat) * 1) t) acc n) : Vals ((numsN n).map V.int) acc.toList := by
  have g : ∀ (l : List Value) (k : Nat), (∀ (i : Nat) (v : Value), l[i]? = some v → ∃ t, v = .int ((k + i : Nat) : Int) t) → Vals (((List.range' k l.length).map fun (i : Nat) => (i : Int)).map V.int) l := by
    intro l
    induction l with
    | nil => intro k _; exact .nil
    | cons x l ih =>
      intro k hk
      obtain ⟨t, e⟩ := hk 0 x rfl
      refine .cons ⟨t, by rw [e]; rfl⟩ (ih (k + 1) fun i v hv => ?_)
      obtain ⟨t, e⟩ := hk (i + 1) v (by simpa using hv)
      exact ⟨t, by rw [e, Nat.add_assoc, Nat.add_comm 1 i]⟩
  have := g acc.toList 0 fun i v hv => by
    rw [Array.getElem?_toList] at hv
    obtain ⟨t, e⟩ := h.2 i v hv
    exact ⟨t, by rw [e]; congr 1; omega⟩
  rw [Array.length_toList, h.1] at this
  unfold numsN
  rw [List.range_eq_range']
  exact this
section
variable {X : Cx}
def rListRng : List V → Hp → VK → Prop := fun xs H Q => ∃ n : Nat, xs = [.int (n : Int)] ∧ n ≤ 1000 ∧ ∀ l, H l = none → Q (.ref l) (upd H l (.lst ((numsN n).map V.int)))
theorem pe_listRng {a : Expr} {ta : TA} {p p' pos pos' : Pos} (hc : X.calm = true) (hg : Gl X "list") (hm : X.mg "list" = none) (hg2 : Gl X "range") (hm2 : X.mg "range" = none) (ha : PA X [a] ta) (hs : starEach [a] X.env = [(false, eval a X.env)] := by rfl)
    (ht : starEach [.Call (.Name "range" p') [a] [] pos'] X.env = [(false, eval (.Call (.Name "range" p') [a] [] pos') X.env)] := by rfl) :
    PE X (.Call (.Name "list" p) [.Call (.Name "range" p') [a] [] pos'] [] pos) (tCB rListRng ta) := by
  intro pins s σ H Q I h
  refine wpAny_Call_Name_kw (ld_blt I hg hm PyProof.Rows.boot_list (PyProof.Rows.callWith_type1 ?_ ht rfl) (by decide) (by decide))
  rw [ht]
  show wpAny _ _ (spliced ((false, eval (.Call (.Name "range" p') [a] [] pos') X.env) :: backTo pos [])) _ _ s
  refine Calls.spliced_cons (wpAny_Call_Name_kw (ld_blt I hg2 hm2 boot_range (PyProof.Rows.callWith_type1 (thn (ha pos' pins s σ H _ I h) fun us s1 ⟨vs, H1, I1, r1, q1⟩ => ?_) hs rfl) (by decide) (by decide)))
  obtain ⟨n, e, hz, q⟩ := q1
  subst e
  obtain ⟨u, rfl, ru⟩ := vals1 r1
  obtain ⟨t, rfl⟩ := ru
  refine call_range_1 (Calls.spliced_nil ?_)
  have hn : Builtin.Range.rangeSize 0 (n : Int) 1 = n := by rw [rangeSize_one]; split <;> omega
  refine call_list_range (s := { s1 with heap := _, toks := _ }) (n := n) (I1.ok.hd hc) (IsRange.new ..) (small_one (by omega) (by omega) (by omega) (by omega)) hn (by omega) fun h' tk acc c' hk hS hacc => ?_
  have l0 : s1.heap.objs.size ≤ (s1.heap.push { cls := .type "range", data := .fields #[.int 0 s1.toks, .int (n : Int) t, .int 1 (s1.toks + 1)] }).objs.size := by rw [Heap.size_push]; exact Nat.le_succ _
  have kk : ∀ b o, s1.heap.get? b = some o → h'.get? b = some o := fun b o e => hk b o (Heap.get?_push_of_some _ e)
  exact ⟨.ref _, _, I1.laid (t' := tk) kk l0 (show ObjOk X.prog X.w _ _ _ (.lst ((numsN n).map V.int)) from ⟨by rw [List.length_map, numsN_len, sizeLine_eq]; omega, acc.toList, c', items_ints hacc, by simpa using hS⟩), rfl, q _ (I1.hok.fresh l0)⟩
theorem r_listRng {H : Hp} {Q : VK} {i : Int} (n : Nat) (e : i = n) (hn : n ≤ 1000) (q : ∀ l H', H l = none → H' l = some (.lst ((numsN n).map V.int)) → Ext H H' → Q (.ref l) H') : rListRng [.int i] H Q := ⟨n, by rw [e], hn, fun l nl => q l _ nl upd_same (ext_upd nl)⟩
end
end L2
set_option Elab.async false
set_option linter.all false
set_option maxRecDepth 100000
set_option maxHeartbeats 4000000
namespace L2
open PySem PySem.Spec PyProof.Rows PySem.W
end L2
set_option Elab.async false
set_option linter.all false
set_option maxRecDepth 100000
set_option maxHeartbeats 4000000
namespace L2
open PySem PySem.Spec PyProof.Rows PySem.W
def Ris (xs : Array Nat) : Prop := xs.toList.Pairwise (· < ·)
structure Low (xs : Array Nat) (j r : Nat) : Prop where
  le : r ≤ xs.size
  lo : ∀ i, i < r → xs.getD i 0 < j
  hi : ∀ i, r ≤ i → i < xs.size → j ≤ xs.getD i 0
def adv (m : Nat) (p : SetTable.Probe) : SetTable.Probe :=
  if p.more > 0 then { p with more := p.more - 1, j := p.j + 1 } else
  { p with j := (SetTable.leap m p.i p.perturb).1, more := SetTable.runEnd m (SetTable.leap m p.i p.perturb).1 - (SetTable.leap m p.i p.perturb).1, i := (SetTable.leap m p.i p.perturb).1, perturb := (SetTable.leap m p.i p.perturb).2 }
def st0 (m : Nat) (h : Int) : SetTable.Probe := { j := SetTable.bits h % (m + 1), more := SetTable.runEnd m (SetTable.bits h % (m + 1)) - SetTable.bits h % (m + 1), i := SetTable.bits h % (m + 1), perturb := SetTable.bits h, dummy := none }
def pth (m : Nat) (h : Int) : Nat → SetTable.Probe
  | 0 => st0 m h
  | n + 1 => adv m (pth m h n)
theorem pth_run {m : Nat} {h : Int} {n : Nat} {p : SetTable.Probe} (e : pth m h n = p) : ∀ c, c ≤ p.more → pth m h (n + c) = { p with j := p.j + c, more := p.more - c }
  | 0, _ => e
  | c + 1, hc => by
    show adv m (pth m h (n + c)) = _
    rw [pth_run e c (by omega)]
    unfold adv
    rw [if_pos (show p.more - c > 0 by omega)]
    congr 1 <;> omega
def lp (m : Nat) (h : Int) : Nat → Nat × Nat
  | 0 => (SetTable.bits h % (m + 1), SetTable.bits h)
  | L + 1 => SetTable.leap m (lp m h L).1 (lp m h L).2
theorem run_le (m i : Nat) : SetTable.runEnd m i - i ≤ 9 := by unfold SetTable.runEnd; split <;> omega
theorem pth_lp (m : Nat) (h : Int) : ∀ L, ∃ n, n ≤ 10 * L ∧ pth m h n = { j := (lp m h L).1, more := SetTable.runEnd m (lp m h L).1 - (lp m h L).1, i := (lp m h L).1, perturb := (lp m h L).2, dummy := none }
  | 0 => ⟨0, Nat.le_refl _, rfl⟩
  | L + 1 => by
    obtain ⟨n, hn, e⟩ := pth_lp m h L
    have r := run_le m (lp m h L).1
    refine ⟨n + (SetTable.runEnd m (lp m h L).1 - (lp m h L).1) + 1, by omega, ?_⟩
    show adv m (pth m h (n + _)) = _
    rw [pth_run e _ (Nat.le_refl _)]
    unfold adv
    rw [if_neg (by simp)]
    rfl
theorem lp_pert (m : Nat) (h : Int) : ∀ L, (lp m h L).2 = SetTable.bits h / 32 ^ L
  | 0 => by show SetTable.bits h = _; simp
  | L + 1 => by
    show (lp m h L).2 / 32 = _
    rw [lp_pert m h L, Nat.div_div_eq_div_mul, Nat.pow_succ]
theorem bits_lt (h : Int) : SetTable.bits h < 2 ^ 64 := by unfold SetTable.bits; omega
theorem lp_zero (m : Nat) (h : Int) (L : Nat) (hL : 13 ≤ L) : (lp m h L).2 = 0 := by
  rw [lp_pert]
  refine Nat.div_eq_of_lt (Nat.lt_of_lt_of_le (bits_lt h) ?_)
  exact Nat.le_trans (by decide) (Nat.pow_le_pow_right (by decide) hL)
def cyc (m : Nat) : Nat → Nat → Nat
  | 0, x => x
  | d + 1, x => (cyc m d x * 5 + 1) % (m + 1)
theorem lp_cyc (m : Nat) (h : Int) : ∀ d, (lp m h (13 + d)).1 = cyc m d (lp m h 13).1
  | 0 => rfl
  | d + 1 => by
    show ((lp m h (13 + d)).1 * 5 + 1 + (lp m h (13 + d)).2 / 32) % (m + 1) = _
    rw [lp_zero m h _ (by omega), lp_cyc m h d]
    rfl
theorem cyc7 : ∀ x, x < 8 → ∀ e, e < 8 → ∃ d, d < 8 ∧ cyc 7 d x = e := by decide +kernel
theorem cyc31 : ∀ x, x < 32 → ∀ e, e < 32 → ∃ d, d < 32 ∧ cyc 31 d x = e := by decide +kernel
theorem cyc_add (m : Nat) : ∀ (a b x : Nat), cyc m (a + b) x = cyc m a (cyc m b x)
  | 0, b, x => by rw [Nat.zero_add]; rfl
  | a + 1, b, x => by
    rw [show a + 1 + b = (a + b) + 1 by omega]
    show (cyc m (a + b) x * 5 + 1) % (m + 1) = _
    rw [cyc_add m a b x]
    rfl
theorem cyc00 : ∀ e, e < 128 → ∃ d, d < 128 ∧ cyc 127 d 0 = e := by decide +kernel
theorem cyc127 : ∀ x, x < 128 → ∀ e, e < 128 → ∃ d, d < 128 ∧ cyc 127 d x = e := fun x hx e he => by
  obtain ⟨p, hp, rfl⟩ := cyc00 x hx
  obtain ⟨q, hq, rfl⟩ := cyc00 e he
  by_cases h : p ≤ q
  · exact ⟨q - p, by omega, by rw [← cyc_add, Nat.sub_add_cancel h]⟩
  · refine ⟨q + 128 - p, by omega, ?_⟩
    rw [← cyc_add, show q + 128 - p + p = q + 128 by omega, cyc_add, show cyc 127 128 0 = 0 by decide +kernel]
def Msk (m : Nat) : Prop := m = 7 ∨ m = 31 ∨ m = 127
theorem cyc_any {m : Nat} (hm : Msk m) {x e : Nat} (hx : x < m + 1) (he : e ≤ m) : ∃ d, d < m + 1 ∧ cyc m d x = e := by
  rcases hm with rfl | rfl | rfl
  · exact cyc7 _ hx _ (by omega)
  · exact cyc31 _ hx _ (by omega)
  · exact cyc127 _ hx _ (by omega)
theorem lp_lt (m : Nat) (h : Int) : ∀ L, (lp m h L).1 < m + 1
  | 0 => Nat.mod_lt _ (Nat.succ_pos _)
  | L + 1 => Nat.mod_lt _ (Nat.succ_pos _)
theorem meets {m : Nat} (hm : Msk m) (h : Int) {e : Nat} (he : e ≤ m) : ∃ n, n < 10 * (m + 14) ∧ (pth m h n).j = e := by
  have l := lp_lt m h 13
  obtain ⟨d, hd, hc⟩ := cyc_any hm l he
  obtain ⟨n, hn, q⟩ := pth_lp m h (13 + d)
  exact ⟨n, by omega, by rw [q]; show (lp m h (13 + d)).1 = e; rw [lp_cyc, hc]⟩
structure Tab (t : SetTable) (es : Array (Int × Value)) : Prop where
  mask : Msk t.mask
  dum : t.dummies = #[]
  ris : Ris t.place
  size : t.place.size = es.size
  room : es.size * 5 < t.mask * 3
  top : ∀ j ∈ t.place.toList, j ≤ t.mask
  way : ∀ (i : Nat) (hi : i < es.size), ∃ N, (pth t.mask es[i].1 N).j = t.place.getD i 0 ∧ ∀ m, m < N → (pth t.mask es[i].1 m).j ∈ t.place.toList
section
variable {prog : Program} {w : World} {A : Around} {E : Value → Shared → Prop} {s : Shared}
structure Asks (prog : Program) (w : World) (A : Around) (E : Value → Shared → Prop) (s : Shared) (es : Array (Int × Value)) (x : Value) (hash : Int) {K : Type} [DecidableEq K] (key : Nat → K) (k : K) : Prop where
  hsh : ∀ (i : Nat) (hi : i < es.size), key i = k → es[i].1 = hash
  eq : ∀ (i : Nat) (hi : i < es.size) (Q : Bool → Shared → Prop), Q (decide (key i = k)) s → wpAny (model prog w) A (eqBool es[i].2 x) Q E s
  ref : ∀ (i : Nat) (hi : i < es.size), ∃ a, es[i].2 = .ref a
  seen : ∀ (l : List Value), (∀ y ∈ l, ∃ (i : Nat) (hi : i < es.size), y = es[i].2) → ∀ Q : Bool → Shared → Prop, Q false s → wpAny (model prog w) A (searchCouldBeSeen x l) Q E s
end
abbrev OwnA := Array (Option Nat)
theorem set_perm : ∀ (l : List (Option Nat)) (j k : Nat), l[j]? = some none → ((l.set j (some k)).filterMap id).Perm (k :: l.filterMap id)
  | [], j, k, h => by simp at h
  | a :: l, 0, k, h => by
    simp at h
    subst h
    exact List.Perm.refl _
  | a :: l, j + 1, k, h => by
    have ih := set_perm l j k (by simpa using h)
    cases a with
    | none => exact ih
    | some x => exact (ih.cons x).trans (List.Perm.swap _ _ _)
structure LaidT (m : Nat) (hs : List Int) (ow : OwnA) : Prop where
  size : ow.size = m + 1
  perm : (ow.toList.filterMap id).Perm (List.range hs.length)
  way : ∀ j i, ow[j]? = some (some i) → ∃ h, hs[i]? = some h ∧ ∃ N, (pth m h N).j = j ∧ ∀ q, q < N → (ow.getD (pth m h q).j (some 0)).isNone = false
section
variable {prog : Program} {w : World} {A : Around} {E : Value → Shared → Prop} {s : Shared}
def RowE (prog : Program) (w : World) (Z : Addr → List Int → Prop) (h : Heap) (e : Int × Value) (L : List Int) : Prop := ∃ a, e.2 = .ref a ∧ IsTupleKey (intKind prog w) h L a ∧ e.1 = tupleKeyHash (intKind prog w) L ∧ Z a L
inductive RowsE (prog : Program) (w : World) (Z : Addr → List Int → Prop) (h : Heap) : List (Int × Value) → List (List Int) → Prop
  | nil : RowsE prog w Z h [] []
  | cons {e : Int × Value} {L : List Int} {es : List (Int × Value)} {Ls : List (List Int)} : RowE prog w Z h e L → RowsE prog w Z h es Ls → RowsE prog w Z h (e :: es) (L :: Ls)
end
end L2
set_option Elab.async false
set_option linter.all false
set_option maxRecDepth 100000
set_option maxHeartbeats 4000000
namespace L2
open PySem PySem.Spec PyProof.Rows PySem.W
inductive RowsV (prog : Program) (w : World) (Z : Addr → List Int → Prop) (h : Heap) : List Value → List (List Int) → Prop
  | nil : RowsV prog w Z h [] []
  | cons {a : Addr} {L : List Int} {vs : List Value} {Ls : List (List Int)} : IsTupleKey (intKind prog w) h L a → Z a L → RowsV prog w Z h vs Ls → RowsV prog w Z h (.ref a :: vs) (L :: Ls)
inductive RefsH (H : Hp) : List V → List (List Int) → Prop
  | nil : RefsH H [] []
  | cons {a : Addr} {L : List Int} {vs : List V} {Ls : List (List Int)} : H a = some (.tup (L.map V.int)) → RefsH H vs Ls → RefsH H (.ref a :: vs) (L :: Ls)
end L2
set_option Elab.async false
set_option linter.all false
set_option maxRecDepth 100000
set_option maxHeartbeats 4000000
namespace L2
open PySem PySem.Spec PyProof.Rows PySem.W
def pairLt (p q : List Int × Int) : Prop := p.1 < q.1 ∨ (p.1 = q.1 ∧ p.2 < q.2)
instance (p q : List Int × Int) : Decidable (pairLt p q) := by unfold pairLt; infer_instance
inductive PairsAt (prog : Program) (w : World) (h : Heap) : List Value → List (List Int × Int) → Prop
  | nil : PairsAt prog w h [] []
  | cons {c a : Addr} {L : List Int} {x : Int} {t : Tok} {vs : List Value} {Ks : List (List Int × Int)} : IsTup h c #[.ref a, .int x t] → IsTupleKey (intKind prog w) h L a → PairsAt prog w h vs Ks → PairsAt prog w h (.ref c :: vs) ((L, x) :: Ks)
end L2
set_option Elab.async false
set_option linter.all false
set_option maxRecDepth 100000
set_option maxHeartbeats 4000000
namespace L2
open PySem PySem.Spec PyProof.Rows PySem.W
inductive PairsH (H : Hp) : List V → List (List Int × Int) → Prop
  | nil : PairsH H [] []
  | cons {c a : Addr} {L : List Int} {x : Int} {vs : List V} {Ks : List (List Int × Int)} : H c = some (.tup [.ref a, .int x]) → H a = some (.tup (L.map V.int)) → PairsH H vs Ks → PairsH H (.ref c :: vs) ((L, x) :: Ks)
section
variable {X : Cx}
open Classical in
end
structure LamOk (X : Cx) (scope : Scope) (cl : List (Str × Addr)) (x : Str) (fr : List Str) (js : List Nat) : Prop where
  kind : scope.kind = .function
  co : scope.isCoroutine = false
  gen : scope.isGenerator = false
  nc : ∀ y ∈ scope.names, y.2 ≠ .cell
  par : scope.names.lookup x = some .local
  clos : closOf X.env.cells scope.names [] = some cl
  frees : Frees X scope fr js
section
variable {X : Cx} {pins : List (Addr × Obj)} {σ : St} {H : Hp} {s : Shared}
structure Keyed (X : Cx) (A : Around) (σ : St) (KR : Hp → V → Nat → Prop) (lt : Nat → Nat → Bool) : Prop where
  ext : ∀ {H H' : Hp} {v : V} {i : Nat}, Ext H H' → KR H v i → KR H' v i
  cmp : ∀ {pins : List (Addr × Obj)} {H : Hp} {s : Shared} {v1 v2 : V} {u1 u2 : Value} {i j : Nat} {Q : Value → Shared → Prop} {E : Value → Shared → Prop}, Inv X pins σ H s → KR H v1 i → RelV v1 u1 → KR H v2 j → RelV v2 u2 → Q (.bool (lt i j)) s →
    wpAny (model X.prog X.w) A (richCompare .Lt u1 u2) Q E s
structure Turns (X : Cx) (A : Around) (pins : List (Addr × Obj)) (σ : St) (KR : Hp → V → Nat → Prop) (G : Hp → Prop) (q l : Addr) (xs : List V) (tp : Bool) : Prop where
  ext : ∀ {H H' : Hp}, Ext H H' → G H → G H'
  src : ∀ {H : Hp}, G H → SqE X.K H l xs tp
  turn : ∀ {ps : List (Addr × Obj)} {H : Hp} {s : Shared} {i : Nat} {x : V} {u : Value} {E : Value → Shared → Prop}, (∀ p ∈ pins, p ∈ ps) → Inv X ps σ H s → G H → xs[i]? = some x → RelV x u →
    wpAny (model X.prog X.w) A (call (.ref q) [u]) (EP X ps σ fun kv H' => KR H' kv i ∧ Ext H H') E s
variable {A : Around} {KR : Hp → V → Nat → Prop} {lt : Nat → Nat → Bool} {G : Hp → Prop} {l q It S : Addr} {xs : List V} {tp : Bool} {R : Result → Shared → Prop}
end
abbrev LA (α : Type) := List (Addr × Obj) → Addr → Addr → Shared → Hp → α
structure NoC (K : PySem.W.Frag) (C B : Addr) : Prop where
  ha : PySem.W.findIn K (.ref C) "__class__" = some (some (.builtin "object.__class__"))
  hn : PySem.W.specialIn K (.builtin "object.__class__") "__get__" = some (some (.builtin "getset_descriptor.__get__"))
  htk : PySem.W.takesIn K (.builtin "object.__class__") = some true
  hm : PySem.W.mroIn K C (.type "object") = some true
  ki : PySem.W.kitOne K (.ref C) (.ref B) = some false
structure RiseG (w : World) (t : SetTable) (n : Nat) (sl : Nat → Nat) : Prop where
  fits : t.fits n = true
  dr : byT w = false → (!t.plain && decide (n > 1)) = false
  zero : sl 0 = 0
  low : ∀ i, i ≤ n → SetTable.below t.place (sl i) = i
  step : ∀ i, i < n → ∃ j, t.place[i]? = some j ∧ j + 1 = sl (i + 1)
section
variable {prog : Program} {w : World} {A : Around} {E : Value → Shared → Prop} {s : Shared}
def RowET (prog : Program) (w : World) (Z : Addr → List Str → Prop) (h : Heap) (e : Int × Value) (L : List Str) : Prop := ∃ a, e.2 = .ref a ∧ IsTupleKey (PySem.strKind prog w) h L a ∧ e.1 = tupleKeyHash (PySem.strKind prog w) L ∧ Z a L
inductive RowsET (prog : Program) (w : World) (Z : Addr → List Str → Prop) (h : Heap) : List (Int × Value) → List (List Str) → Prop
  | nil : RowsET prog w Z h [] []
  | cons {e : Int × Value} {L : List Str} {es : List (Int × Value)} {Ls : List (List Str)} : RowET prog w Z h e L → RowsET prog w Z h es Ls → RowsET prog w Z h (e :: es) (L :: Ls)
end
end L2
set_option Elab.async false
set_option linter.all false
set_option maxRecDepth 100000
set_option maxHeartbeats 4000000
namespace L2
open PySem PySem.Spec PyProof.Rows PySem.W
def cpm (L : List Str) : List (List Nat) := L.map fun x => x.cps.toList
inductive StrsV : List Value → List Str → Prop
  | nil : StrsV [] []
  | cons (n : Str) (t : Tok) {vs : List Value} {ns : List Str} : StrsV vs ns → StrsV (.str n t :: vs) (n :: ns)
inductive RowsVT (prog : Program) (w : World) (Z : Addr → List Str → Prop) (h : Heap) : List Value → List (List Str) → Prop
  | nil : RowsVT prog w Z h [] []
  | cons {a : Addr} {L : List Str} {vs : List Value} {Ls : List (List Str)} : IsTupleKey (PySem.strKind prog w) h L a → Z a L → RowsVT prog w Z h vs Ls → RowsVT prog w Z h (.ref a :: vs) (L :: Ls)
inductive RefsHT (H : Hp) : List V → List (List Str) → Prop
  | nil : RefsHT H [] []
  | cons {a : Addr} {L : List Str} {vs : List V} {Ls : List (List Str)} : H a = some (.tup (L.map V.str)) → RefsHT H vs Ls → RefsHT H (.ref a :: vs) (L :: Ls)
theorem RefsHT.length {H : Hp} {vs : List V} {Ls : List (List Str)} (r : RefsHT H vs Ls) : vs.length = Ls.length := by
  induction r with
  | nil => rfl
  | cons _ _ ih => simp [ih]
theorem RefsHT.mono {H H' : Hp} (e : Ext H H') {vs : List V} {Ls : List (List Str)} (r : RefsHT H vs Ls) : RefsHT H' vs Ls := by
  induction r with
  | nil => exact .nil
  | cons x _ ih => exact .cons (e _ _ x) ih
theorem RefsHT.get {H : Hp} {vs : List V} {Ls : List (List Str)} (r : RefsHT H vs Ls) : ∀ (i : Nat) (v : V), vs[i]? = some v → ∃ a, v = .ref a ∧ H a = some (.tup ((Ls.getD i []).map V.str)) := by
  induction r with
  | nil => intro i v h; simp at h
  | cons x _ ih =>
    intro i v h
    cases i with
    | zero => simp at h; subst h; exact ⟨_, rfl, by simpa using x⟩
    | succ i => simpa using ih i v (by simpa using h)
section
open PySem.SeqAt
open PySem.AutoSeq1 (wpAny_loadPart')
open PySem.MeetsSeq PySem.MeetsSeq2 PySem.MeetsSeq3
end
end L2
set_option Elab.async false
set_option linter.all false
set_option maxRecDepth 100000
set_option maxHeartbeats 4000000
namespace L2
open PySem PySem.Spec PyProof.Rows PySem.W
def pairLtT (p q : List Str × Int) : Prop := cpm p.1 < cpm q.1 ∨ (p.1 = q.1 ∧ p.2 < q.2)
instance (p q : List Str × Int) : Decidable (pairLtT p q) := by unfold pairLtT; infer_instance
inductive PairsAtT (prog : Program) (w : World) (h : Heap) : List Value → List (List Str × Int) → Prop
  | nil : PairsAtT prog w h [] []
  | cons {c a : Addr} {L : List Str} {x : Int} {t : Tok} {vs : List Value} {Ks : List (List Str × Int)} : IsTup h c #[.ref a, .int x t] → IsTupleKey (PySem.strKind prog w) h L a → PairsAtT prog w h vs Ks → PairsAtT prog w h (.ref c :: vs) ((L, x) :: Ks)
inductive PairsHT (H : Hp) : List V → List (List Str × Int) → Prop
  | nil : PairsHT H [] []
  | cons {c a : Addr} {L : List Str} {x : Int} {vs : List V} {Ks : List (List Str × Int)} : H c = some (.tup [.ref a, .int x]) → H a = some (.tup (L.map V.str)) → PairsHT H vs Ks → PairsHT H (.ref c :: vs) ((L, x) :: Ks)
section
open PySem.SeqAt
open PySem.AutoSeq1 (wpAny_loadPart')
open PySem.MeetsSeq PySem.MeetsSeq2 PySem.MeetsSeq3
end
inductive IsDc : HO → Prop
  | k (kvs : List (Key × V)) : IsDc (.dK kvs)
  | t (kvs : List (List Key × V)) : IsDc (.dT kvs)
structure LamC1 (sc : Scope) (x y : Str) : Prop where
  kind : sc.kind = .function
  co : sc.isCoroutine = false
  gen : sc.isGenerator = false
  nc : ∀ z ∈ sc.names, z.2 ≠ .cell
  par : sc.names.lookup x = some .local
  fre : sc.names.lookup y = some .free
  only : ∀ z ∈ sc.names, z.2 = .free → z.1 = y
structure LamC2 (sc : Scope) (x y : Str) (rest : List (Str × NameKind)) : Prop where
  kind : sc.kind = .function
  co : sc.isCoroutine = false
  gen : sc.isGenerator = false
  names : sc.names = (x, .cell) :: rest
  nc : ∀ z ∈ rest, z.2 ≠ .cell
  ne : x ≠ y
  fre : sc.names.lookup y = some .free
  only : ∀ z ∈ sc.names, z.2 = .free → z.1 = y
abbrev LAC (α : Type) := List (Addr × Obj) → Addr → Addr → Shared → Addr → Hp → α
inductive IntsE : List (Int × Value) → List Int → Prop
  | nil : IntsE [] []
  | cons {n : Int} {t : Tok} {es : List (Int × Value)} {ns : List Int} : IntsE es ns → IntsE ((hashInt n, .int n t) :: es) (n :: ns)
section
variable {X : Cx}
open Classical in
end
section
variable {X : Cx}
def rLIxS : V → List V → Hp → VK → Prop := fun x vs H Q => ∃ (l : Addr) (ss : List Str) (k : Str), x = .ref l ∧ vs = [.str k] ∧ H l = some (.lst (ss.map V.str)) ∧ k ∈ ss ∧ ss.length ≤ 1000000 ∧ Q (.int (ss.idxOf k : Nat)) H
theorem mt_lindexS : MtM X "list.index" rLIxS := by
  intro pins s σ H x vs v us Q I rx rv h
  obtain ⟨l, ss, k, rfl, rfl, hH, hk, hz, q⟩ := h
  cases rx
  obtain ⟨u, rfl, t, rfl⟩ := rv.one
  obtain ⟨z, its, n, r, hl, e⟩ := I.lstM hH
  have hn := r.length
  rw [List.length_map] at hn
  have hj : ss.idxOf k < ss.length := List.idxOf_lt_length_iff.mpr hk
  have at_ : ∀ (m : Nat) (hm : m < its.toArray.size), isS k its.toArray[m] = (ss[m]'(by rw [List.size_toArray] at hm; omega) == k) := fun m hm => by
    have hm' : m < its.length := by rw [List.size_toArray] at hm; exact hm
    obtain ⟨z, t', h1, h2⟩ := strs_at r m its[m] (List.getElem?_eq_getElem hm')
    rw [List.getElem?_eq_getElem (show m < ss.length by omega)] at h1
    have h2' : its.toArray[m] = .str z t' := by simpa using h2
    rw [h2']
    injection h1 with h1
    rw [h1]
    rfl
  refine call_meets F.slot_list_index ⟨_, e, rfl⟩ F.entry_list_index (F.args_list_index_2 _ _) (SeqAt.list_indexAt l its.toArray n none #[] (.str k t) (isS k) (ss.idxOf k) (by rw [List.size_toArray]; omega) (by omega) ?a ?b) ⟨e, ?c, ?d⟩
  case a => rw [at_, List.getElem_idxOf hj]; exact beq_self_eq_true k
  case b =>
    intro m h1 h2
    rw [at_]
    exact List.not_of_lt_findIdx h2
  case c =>
    intro y hy
    obtain ⟨m, hm, e⟩ := List.getElem_of_mem (show y ∈ its by simpa using hy)
    obtain ⟨z, t', _, h2⟩ := strs_at r m y (by rw [← e]; exact List.getElem?_eq_getElem hm)
    rw [h2]
    exact SeqAt.EqAt.str_str z t' k t
  case d => exact ⟨.int (ss.idxOf k : Nat), H, I.tok _, ⟨_, rfl⟩, q⟩
theorem r_lindexS {H : Hp} {Q : VK} {p : Addr} {ss : List Str} {k : Str} (h : H p = some (.lst (ss.map V.str))) (hk : k ∈ ss) (hz : ss.length ≤ 1000000) (q : Q (.int (ss.idxOf k : Nat)) H) : rLIxS (.ref p) [.str k] H Q := ⟨p, ss, k, rfl, rfl, h, hk, hz, q⟩
theorem r_srtT {K : PySem.W.Frag} {H : Hp} {Q : VK} {p : Addr} {ns : List Int} (h : H p = some (.tup (ns.map V.int))) (hl : ns.length < 64) (q : ∀ l (ns' : List Int) H', H l = none → ns'.Perm ns → ns'.Pairwise (· ≤ ·) → H' l = some (.lst (ns'.map V.int)) → Ext H H' → Q (.ref l) H') : rSortW K [.ref p] H Q := .inl (r_sortedT h hl q)
end
end L2
namespace Q
open PySem PySem.Spec PyProof.Rows L2
local macro_rules | `(tactic| walk_at "side") => `(tactic| first | exact ⟨by decide, by decide, by decide⟩ | exact Or.inl ⟨by omega, by omega⟩ | exact Or.inr (Or.inl ⟨by omega, by omega⟩) | exact ⟨by omega, by omega⟩ | omega | decide)
local macro_rules | `(tactic| walk_at "hp") => `(tactic| first | assumption | ((refine up (H := ?kH) ?ke ?kf); (case ke => assumption); (case kf => walk_at "hp")))
local macro_rules | `(tactic| walk_at "vs") => `(tactic| first
  | ((with_reducible refine r_var (v := ?kv) ?kh ?_); (case kh => exact rfl))
  | with_reducible refine r_op ?_
  | with_reducible refine r_c ?_
  | with_reducible refine r_seq ?_
  | with_reducible refine r_asg ?_
  | with_reducible refine r_gname ?_
  | with_reducible refine r_if ?_
  | with_reducible refine r_test ?_
  | with_reducible refine r_bl ?_
  | with_reducible refine r_I0 ?_
  | with_reducible refine r_addV ?_
  | with_reducible refine r_addWI ?_
  | with_reducible refine r_leWI ?_
  | with_reducible refine r_leWS ?_
  | ((with_reducible refine r_mulWI ?kc ?_); (case kc => walk_at "side"))
  | with_reducible refine r_pow18 ?_
  | with_reducible refine r_pow6 ?_
  | with_reducible refine r_pow9 ?_
  | with_reducible refine r_powM ?_
  | ((with_reducible refine r_I ?kc ?_); (case kc => walk_at "side"))
  | with_reducible refine r_eqUI ?_
  | with_reducible refine r_neI ?_
  | with_reducible refine r_neUI ?_
  | with_reducible refine r_ret ?_
  | with_reducible refine r_next ?_
  | with_reducible refine r_drop ?_
  | with_reducible refine r_not ?_
  | with_reducible refine r_truth ?_
  | with_reducible refine r_blT ?_
  | with_reducible refine r_and ?_
  | with_reducible refine r_or ?_
  | with_reducible refine r_andV ?_
  | with_reducible refine r_orV ?_
  | with_reducible refine r_notV ?_
  | with_reducible refine r_ifE ?_
  | with_reducible refine r_chain ?_
  | with_reducible refine r_un ?_
  | with_reducible refine r_rU ?_
  | with_reducible refine r_call ?_
  | with_reducible refine r_cb ?_
  | with_reducible refine r_cons ?_
  | with_reducible refine r_nil ?_
  | with_reducible refine r_meth ?_
  | ((with_reducible refine r_self (dx := ?kd) (fs := ?kf) ?kh ?kl ?_); (case kh => walk_at "hp"); (case kl => exact rfl))
  | with_reducible refine r_cmeth ?_
  | with_reducible refine r_cself ?_
  | with_reducible refine r_make ?_
  | with_reducible refine r_fldK ?_
  | ((with_reducible refine r_fat (C := ?kC) (dx := ?kd) (fs := ?kf) (v := ?kv) ?kh ?kc ?kn ?kl ?_); (case kh => walk_at "hp"); (case kc => assumption); (case kn => assumption); (case kl => exact rfl))
  | with_reducible refine r_sfld ?_
  | with_reducible refine r_tup ?_
  | with_reducible refine r_lst ?_
  | ((with_reducible refine r_newT ?kc ?_); (case kc => exact rfl))
  | ((with_reducible refine r_newL ?kc ?_); (case kc => exact rfl))
  | with_reducible refine r_dnew ?_
  | with_reducible refine r_retN ?_
  | with_reducible refine r_for ?_
  | with_reducible refine r_rng1 ?_
  | with_reducible refine r_rng2 ?_
  | with_reducible refine r_by2 ?_
  | with_reducible refine r_zip2 ?_
  | with_reducible refine r_enum ?_
  | with_reducible refine r_enum1 ?_
  | with_reducible refine r_comp ?_
  | with_reducible refine r_tests0 ?_
  | with_reducible refine r_tests1 ?_
  | with_reducible refine r_gsub ?_
  | with_reducible refine r_sl ?_
  | with_reducible refine r_nopart ?_
  | with_reducible refine r_part ?_
  | with_reducible refine r_partI ?_
  | with_reducible refine r_intT ?_
  | with_reducible refine r_ilist ?_
  | with_reducible refine r_itup ?_
  | with_reducible refine r_bm ?_
  | with_reducible refine r_bm0 ?_
  | ((with_reducible refine r_tyl (xs := ?kx) ?kh ?_); (case kh => walk_at "hp"))
  | with_reducible refine r_tm ?_
  | ((with_reducible refine r_tyT (xs := ?kx) ?kh ?_); (case kh => walk_at "hp"))
  | with_reducible refine r_sm ?_
  | with_reducible refine r_dget ?_
  | with_reducible refine r_dput ?_
  | with_reducible refine r_tyS ?_
  | with_reducible refine r_istr ?_
  | with_reducible refine r_gnil ?_
  | with_reducible refine r_gcons ?_
  | ((with_reducible refine r_gtup (xs := ?kx) ?kh ?kl ?_); (case kh => walk_at "hp"); (case kl => exact rfl))
  | with_reducible refine r_max ?_
  | with_reducible refine r_min ?_
  | with_reducible refine r_abs ?_
  | with_reducible refine r_intI ?_
  | with_reducible refine r_intB ?_
  | with_reducible refine r_isN ?_
  | with_reducible refine r_notN ?_
  | with_reducible refine r_try ?_
  | with_reducible refine r_gone ?_
  | with_reducible refine r_efldK ?_
  | with_reducible refine r_terr ?_
  | ((with_reducible refine iteTc ?kh ?_); (case kh => exact rfl))
  | ((with_reducible refine iteFc ?kh ?_); (case kh => exact rfl)))
def top (i : Nat) : Stmt := PySem.Challenge.pw_lateknow_k61_way_price.main.body.getD i (.Pass ⟨0, 0, 0, 0⟩)
abbrev s_law : Stmt := top 48
abbrev s_law_same : Stmt := top 28
abbrev s_law_whole : Stmt := top 26
abbrev s_law_all_same : Stmt := top 29
abbrev s_law_due : Stmt := top 47
abbrev s_law_price : Stmt := top 41
abbrev s_law_put : Stmt := top 40
abbrev s_law_turned : Stmt := top 39
abbrev s_way_price : Stmt := top 2
abbrev s_Ways_price : Stmt := inClass (top 22) 3
abbrev s_Store_price : Stmt := inClass (top 20) 3
abbrev s_Shelf_price : Stmt := inClass (top 18) 3
abbrev s_turned_pairs : Stmt := top 17
abbrev s_overtakers : Stmt := top 16
abbrev s_Line_price : Stmt := inClass (top 14) 3
abbrev s_ways_between : Stmt := top 13
abbrev s_Hire_price : Stmt := inClass (top 11) 3
abbrev s_Bags_price : Stmt := inClass (top 9) 3
abbrev s_filled : Stmt := top 8
abbrev s_opened : Stmt := top 7
abbrev s_law_world : Stmt := top 38
abbrev s_Bags_init : Stmt := inClass (top 9) 0
abbrev s_Store_init : Stmt := inClass (top 20) 0
abbrev s_Ways_init : Stmt := inClass (top 22) 0
abbrev s_Shelf_init : Stmt := inClass (top 18) 0
abbrev s_Line_init : Stmt := inClass (top 14) 0
abbrev s_Hire_init : Stmt := inClass (top 11) 0
abbrev s_law_way : Stmt := top 46
abbrev s_law_strayed : Stmt := top 45
abbrev s_law_after : Stmt := top 44
abbrev s_law_put_out : Stmt := top 43
abbrev s_law_orders : Stmt := top 42
abbrev s_law_mixed : Stmt := top 25
abbrev s_law_cell : Stmt := top 24
abbrev s_law_game : Stmt := top 37
abbrev s_law_sizes : Stmt := top 36
abbrev s_law_sum : Stmt := top 27
abbrev s_law_pages : Stmt := top 35
abbrev s_law_names : Stmt := top 30
abbrev s_law_charged : Stmt := top 34
abbrev s_law_things : Stmt := top 33
abbrev s_law_places : Stmt := top 32
abbrev s_law_hires : Stmt := top 31
structure Adr where
  f_law : Addr
  d_law : FuncData
  f_law_same : Addr
  d_law_same : FuncData
  f_law_whole : Addr
  d_law_whole : FuncData
  f_law_all_same : Addr
  d_law_all_same : FuncData
  f_law_due : Addr
  d_law_due : FuncData
  f_law_price : Addr
  d_law_price : FuncData
  f_law_put : Addr
  d_law_put : FuncData
  f_law_turned : Addr
  d_law_turned : FuncData
  f_way_price : Addr
  d_way_price : FuncData
  f_Ways_price : Addr
  d_Ways_price : FuncData
  f_Store_price : Addr
  d_Store_price : FuncData
  f_Shelf_price : Addr
  d_Shelf_price : FuncData
  f_turned_pairs : Addr
  d_turned_pairs : FuncData
  f_overtakers : Addr
  d_overtakers : FuncData
  f_Line_price : Addr
  d_Line_price : FuncData
  f_ways_between : Addr
  d_ways_between : FuncData
  f_Hire_price : Addr
  d_Hire_price : FuncData
  f_Bags_price : Addr
  d_Bags_price : FuncData
  f_filled : Addr
  d_filled : FuncData
  f_opened : Addr
  d_opened : FuncData
  f_law_world : Addr
  d_law_world : FuncData
  f_Bags_init : Addr
  d_Bags_init : FuncData
  f_Store_init : Addr
  d_Store_init : FuncData
  f_Ways_init : Addr
  d_Ways_init : FuncData
  f_Shelf_init : Addr
  d_Shelf_init : FuncData
  f_Line_init : Addr
  d_Line_init : FuncData
  f_Hire_init : Addr
  d_Hire_init : FuncData
  f_law_way : Addr
  d_law_way : FuncData
  f_law_strayed : Addr
  d_law_strayed : FuncData
  f_law_after : Addr
  d_law_after : FuncData
  f_law_put_out : Addr
  d_law_put_out : FuncData
  f_law_orders : Addr
  d_law_orders : FuncData
  f_law_mixed : Addr
  d_law_mixed : FuncData
  f_law_cell : Addr
  d_law_cell : FuncData
  f_law_game : Addr
  d_law_game : FuncData
  f_law_sizes : Addr
  d_law_sizes : FuncData
  f_law_sum : Addr
  d_law_sum : FuncData
  f_law_pages : Addr
  d_law_pages : FuncData
  f_law_names : Addr
  d_law_names : FuncData
  f_law_charged : Addr
  d_law_charged : FuncData
  f_law_things : Addr
  d_law_things : FuncData
  f_law_places : Addr
  d_law_places : FuncData
  f_law_hires : Addr
  d_law_hires : FuncData
  c_Bags : Addr
  c_Hire : Addr
  c_Line : Addr
  c_Shelf : Addr
  c_Store : Addr
  c_Ways : Addr
  t_MOST_BAGS : Tok
structure Txt (K : PySem.W.Frag) (mg : Str → Option Value) (a : Adr) : Prop where
  F_law : Fun K "law" "law" s_law a.f_law a.d_law
  b_law : Binds K a.d_law ["_law_script"] []
  m_law : mg "law" = some (.ref a.f_law)
  F_law_same : Fun K "_law_same" "_law_same" s_law_same a.f_law_same a.d_law_same
  b_law_same : Binds K a.d_law_same ["_law_found", "_law_due_here"] []
  m_law_same : mg "_law_same" = some (.ref a.f_law_same)
  F_law_whole : Fun K "_law_whole" "_law_whole" s_law_whole a.f_law_whole a.d_law_whole
  b_law_whole : Binds K a.d_law_whole ["_law_found"] []
  m_law_whole : mg "_law_whole" = some (.ref a.f_law_whole)
  F_law_all_same : Fun K "_law_all_same" "_law_all_same" s_law_all_same a.f_law_all_same a.d_law_all_same
  b_law_all_same : Binds K a.d_law_all_same ["_law_found", "_law_due_here"] []
  m_law_all_same : mg "_law_all_same" = some (.ref a.f_law_all_same)
  F_law_due : Fun K "_law_due" "_law_due" s_law_due a.f_law_due a.d_law_due
  b_law_due : Binds K a.d_law_due ["_law_game_here", "_law_way_here"] []
  m_law_due : mg "_law_due" = some (.ref a.f_law_due)
  F_law_price : Fun K "_law_price" "_law_price" s_law_price a.f_law_price a.d_law_price
  b_law_price : Binds K a.d_law_price ["_law_game_here", "_law_before", "_law_wish", "_law_after_here"] []
  m_law_price : mg "_law_price" = some (.ref a.f_law_price)
  F_law_put : Fun K "_law_put" "_law_put" s_law_put a.f_law_put a.d_law_put
  b_law_put : Binds K a.d_law_put ["_law_room", "_law_before", "_law_wish", "_law_after_here"] []
  m_law_put : mg "_law_put" = some (.ref a.f_law_put)
  F_law_turned : Fun K "_law_turned" "_law_turned" s_law_turned a.f_law_turned a.d_law_turned
  b_law_turned : Binds K a.d_law_turned ["_law_before", "_law_wish", "_law_after_here"] []
  m_law_turned : mg "_law_turned" = some (.ref a.f_law_turned)
  F_way_price : Fun K "way_price" "way_price" s_way_price a.f_way_price a.d_way_price
  b_way_price : Binds K a.d_way_price ["world", "start", "wishes", "way"] []
  m_way_price : mg "way_price" = some (.ref a.f_way_price)
  F_Ways_price : Fun K "price" "Ways.price" s_Ways_price a.f_Ways_price a.d_Ways_price
  b_Ways_price : Binds K a.d_Ways_price ["self", "before", "wish", "after"] []
  F_Store_price : Fun K "price" "Store.price" s_Store_price a.f_Store_price a.d_Store_price
  b_Store_price : Binds K a.d_Store_price ["self", "before", "wish", "after"] []
  F_Shelf_price : Fun K "price" "Shelf.price" s_Shelf_price a.f_Shelf_price a.d_Shelf_price
  b_Shelf_price : Binds K a.d_Shelf_price ["self", "before", "wish", "after"] []
  F_turned_pairs : Fun K "turned_pairs" "turned_pairs" s_turned_pairs a.f_turned_pairs a.d_turned_pairs
  b_turned_pairs : Binds K a.d_turned_pairs ["before", "after"] []
  m_turned_pairs : mg "turned_pairs" = some (.ref a.f_turned_pairs)
  F_overtakers : Fun K "overtakers" "overtakers" s_overtakers a.f_overtakers a.d_overtakers
  b_overtakers : Binds K a.d_overtakers ["order", "at", "other"] []
  m_overtakers : mg "overtakers" = some (.ref a.f_overtakers)
  F_Line_price : Fun K "price" "Line.price" s_Line_price a.f_Line_price a.d_Line_price
  b_Line_price : Binds K a.d_Line_price ["self", "before", "wish", "after"] []
  F_ways_between : Fun K "ways_between" "ways_between" s_ways_between a.f_ways_between a.d_ways_between
  b_ways_between : Binds K a.d_ways_between ["before", "after"] []
  m_ways_between : mg "ways_between" = some (.ref a.f_ways_between)
  F_Hire_price : Fun K "price" "Hire.price" s_Hire_price a.f_Hire_price a.d_Hire_price
  b_Hire_price : Binds K a.d_Hire_price ["self", "before", "wish", "after"] []
  F_Bags_price : Fun K "price" "Bags.price" s_Bags_price a.f_Bags_price a.d_Bags_price
  b_Bags_price : Binds K a.d_Bags_price ["self", "before", "wish", "after"] []
  F_filled : Fun K "filled" "filled" s_filled a.f_filled a.d_filled
  b_filled : Binds K a.d_filled ["loads", "at", "size"] []
  m_filled : mg "filled" = some (.ref a.f_filled)
  F_opened : Fun K "opened" "opened" s_opened a.f_opened a.d_opened
  b_opened : Binds K a.d_opened ["loads", "size"] []
  m_opened : mg "opened" = some (.ref a.f_opened)
  F_law_world : Fun K "_law_world" "_law_world" s_law_world a.f_law_world a.d_law_world
  b_law_world : Binds K a.d_law_world ["_law_game_here"] []
  m_law_world : mg "_law_world" = some (.ref a.f_law_world)
  F_Bags_init : Fun K "__init__" "Bags.__init__" s_Bags_init a.f_Bags_init a.d_Bags_init
  b_Bags_init : Binds K a.d_Bags_init ["self", "room"] []
  F_Store_init : Fun K "__init__" "Store.__init__" s_Store_init a.f_Store_init a.d_Store_init
  b_Store_init : Binds K a.d_Store_init ["self", "many"] []
  F_Ways_init : Fun K "__init__" "Ways.__init__" s_Ways_init a.f_Ways_init a.d_Ways_init
  b_Ways_init : Binds K a.d_Ways_init ["self", "many", "toll"] []
  F_Shelf_init : Fun K "__init__" "Shelf.__init__" s_Shelf_init a.f_Shelf_init a.d_Shelf_init
  b_Shelf_init : Binds K a.d_Shelf_init ["self", "things"] []
  F_Line_init : Fun K "__init__" "Line.__init__" s_Line_init a.f_Line_init a.d_Line_init
  b_Line_init : Binds K a.d_Line_init ["self", "many"] []
  F_Hire_init : Fun K "__init__" "Hire.__init__" s_Hire_init a.f_Hire_init a.d_Hire_init
  b_Hire_init : Binds K a.d_Hire_init ["self", "whole"] []
  F_law_way : Fun K "_law_way" "_law_way" s_law_way a.f_law_way a.d_law_way
  b_law_way : Binds K a.d_law_way ["_law_script", "_law_game_here", "_law_straying"] []
  m_law_way : mg "_law_way" = some (.ref a.f_law_way)
  F_law_strayed : Fun K "_law_strayed" "_law_strayed" s_law_strayed a.f_law_strayed a.d_law_strayed
  b_law_strayed : Binds K a.d_law_strayed ["_law_game_here", "_law_before", "_law_wish", "_law_number"] []
  m_law_strayed : mg "_law_strayed" = some (.ref a.f_law_strayed)
  F_law_after : Fun K "_law_after" "_law_after" s_law_after a.f_law_after a.d_law_after
  b_law_after : Binds K a.d_law_after ["_law_game_here", "_law_before", "_law_wish"] []
  m_law_after : mg "_law_after" = some (.ref a.f_law_after)
  F_law_put_out : Fun K "_law_put_out" "_law_put_out" s_law_put_out a.f_law_put_out a.d_law_put_out
  b_law_put_out : Binds K a.d_law_put_out ["_law_before", "_law_wish", "_law_game_here"] []
  m_law_put_out : mg "_law_put_out" = some (.ref a.f_law_put_out)
  F_law_orders : Fun K "_law_orders" "_law_orders" s_law_orders a.f_law_orders a.d_law_orders
  b_law_orders : Binds K a.d_law_orders ["_law_things_here"] []
  m_law_orders : mg "_law_orders" = some (.ref a.f_law_orders)
  F_law_mixed : Fun K "_law_mixed" "_law_mixed" s_law_mixed a.f_law_mixed a.d_law_mixed
  b_law_mixed : Binds K a.d_law_mixed ["_law_cell_here", "_law_k"] []
  m_law_mixed : mg "_law_mixed" = some (.ref a.f_law_mixed)
  F_law_cell : Fun K "_law_cell" "_law_cell" s_law_cell a.f_law_cell a.d_law_cell
  b_law_cell : Binds K a.d_law_cell ["_law_script", "_law_k"] []
  m_law_cell : mg "_law_cell" = some (.ref a.f_law_cell)
  F_law_game : Fun K "_law_game" "_law_game" s_law_game a.f_law_game a.d_law_game
  b_law_game : Binds K a.d_law_game ["_law_script", "_law_most"] []
  m_law_game : mg "_law_game" = some (.ref a.f_law_game)
  F_law_sizes : Fun K "_law_sizes" "_law_sizes" s_law_sizes a.f_law_sizes a.d_law_sizes
  b_law_sizes : Binds K a.d_law_sizes ["_law_head", "_law_cells"] []
  m_law_sizes : mg "_law_sizes" = some (.ref a.f_law_sizes)
  F_law_sum : Fun K "_law_sum" "_law_sum" s_law_sum a.f_law_sum a.d_law_sum
  b_law_sum : Binds K a.d_law_sum ["_law_cell_here", "_law_k"] []
  m_law_sum : mg "_law_sum" = some (.ref a.f_law_sum)
  F_law_pages : Fun K "_law_pages" "_law_pages" s_law_pages a.f_law_pages a.d_law_pages
  b_law_pages : Binds K a.d_law_pages ["_law_head", "_law_cells"] []
  m_law_pages : mg "_law_pages" = some (.ref a.f_law_pages)
  F_law_names : Fun K "_law_names" "_law_names" s_law_names a.f_law_names a.d_law_names
  b_law_names : Binds K a.d_law_names ["_law_number", "_law_many"] []
  m_law_names : mg "_law_names" = some (.ref a.f_law_names)
  F_law_charged : Fun K "_law_charged" "_law_charged" s_law_charged a.f_law_charged a.d_law_charged
  b_law_charged : Binds K a.d_law_charged ["_law_head", "_law_cells"] []
  m_law_charged : mg "_law_charged" = some (.ref a.f_law_charged)
  F_law_things : Fun K "_law_things" "_law_things" s_law_things a.f_law_things a.d_law_things
  b_law_things : Binds K a.d_law_things ["_law_head", "_law_cells"] []
  m_law_things : mg "_law_things" = some (.ref a.f_law_things)
  F_law_places : Fun K "_law_places" "_law_places" s_law_places a.f_law_places a.d_law_places
  b_law_places : Binds K a.d_law_places ["_law_head", "_law_cells"] []
  m_law_places : mg "_law_places" = some (.ref a.f_law_places)
  F_law_hires : Fun K "_law_hires" "_law_hires" s_law_hires a.f_law_hires a.d_law_hires
  b_law_hires : Binds K a.d_law_hires ["_law_head", "_law_cells"] []
  m_law_hires : mg "_law_hires" = some (.ref a.f_law_hires)
  m_Bags : mg "Bags" = some (.ref a.c_Bags)
  cl_Bags : Cls K a.c_Bags
  mk_Bags : Mk K a.c_Bags a.f_Bags_init
  na_Bags_room : NoAttr K a.c_Bags "room"
  me_Bags_price : Meth K a.c_Bags "price" a.f_Bags_price
  m_Hire : mg "Hire" = some (.ref a.c_Hire)
  cl_Hire : Cls K a.c_Hire
  mk_Hire : Mk K a.c_Hire a.f_Hire_init
  na_Hire_whole : NoAttr K a.c_Hire "whole"
  me_Hire_price : Meth K a.c_Hire "price" a.f_Hire_price
  m_Line : mg "Line" = some (.ref a.c_Line)
  cl_Line : Cls K a.c_Line
  mk_Line : Mk K a.c_Line a.f_Line_init
  na_Line_many : NoAttr K a.c_Line "many"
  me_Line_price : Meth K a.c_Line "price" a.f_Line_price
  m_Shelf : mg "Shelf" = some (.ref a.c_Shelf)
  cl_Shelf : Cls K a.c_Shelf
  mk_Shelf : Mk K a.c_Shelf a.f_Shelf_init
  na_Shelf_things : NoAttr K a.c_Shelf "things"
  me_Shelf_price : Meth K a.c_Shelf "price" a.f_Shelf_price
  m_Store : mg "Store" = some (.ref a.c_Store)
  cl_Store : Cls K a.c_Store
  mk_Store : Mk K a.c_Store a.f_Store_init
  na_Store_many : NoAttr K a.c_Store "many"
  me_Store_price : Meth K a.c_Store "price" a.f_Store_price
  m_Ways : mg "Ways" = some (.ref a.c_Ways)
  cl_Ways : Cls K a.c_Ways
  mk_Ways : Mk K a.c_Ways a.f_Ways_init
  na_Ways_many : NoAttr K a.c_Ways "many"
  na_Ways_toll : NoAttr K a.c_Ways "toll"
  me_Ways_price : Meth K a.c_Ways "price" a.f_Ways_price
  n_abs : mg "abs" = none
  n_bool : mg "bool" = none
  n_int : mg "int" = none
  n_isinstance : mg "isinstance" = none
  n_len : mg "len" = none
  n_list : mg "list" = none
  n_max : mg "max" = none
  n_min : mg "min" = none
  n_range : mg "range" = none
  n_sorted : mg "sorted" = none
  n_str : mg "str" = none
  n_sum : mg "sum" = none
  n_tuple : mg "tuple" = none
  n_zip : mg "zip" = none
  m_MOST_BAGS : mg "MOST_BAGS" = some (.int 500 a.t_MOST_BAGS)
section
variable {P : Program} {w : World} {K : PySem.W.Frag} {mg : Str → Option Value} {base : Heap} {a : Adr}
seal PA PE PS PSs PT
theorem sc_law : FnScope ["_law_script", "_law_game_here", "_law_way_here", "_law_handed", "_law_found"] ["_law_script"] (defScope s_law) := ⟨rfl, rfl, rfl, by decide +kernel, rfl, by decide +kernel, by decide +kernel⟩
theorem sc_law_same : FnScope ["_law_found", "_law_due_here"] ["_law_found", "_law_due_here"] (defScope s_law_same) := ⟨rfl, rfl, rfl, by decide +kernel, rfl, by decide +kernel, by decide +kernel⟩
theorem sc_law_whole : FnScope ["_law_found"] ["_law_found"] (defScope s_law_whole) := ⟨rfl, rfl, rfl, by decide +kernel, rfl, by decide +kernel, by decide +kernel⟩
theorem sc_law_all_same : FnScope ["_law_found", "_law_due_here", "_law_one", "_law_other"] ["_law_found", "_law_due_here"] (defScope s_law_all_same) := ⟨rfl, rfl, rfl, by decide +kernel, rfl, by decide +kernel, by decide +kernel⟩
theorem sc_law_due : FnScope ["_law_game_here", "_law_way_here", "_law_due_here", "_law_here", "_law_k", "_law_price_here"] ["_law_game_here", "_law_way_here"] (defScope s_law_due) := ⟨rfl, rfl, rfl, by decide +kernel, rfl, by decide +kernel, by decide +kernel⟩
theorem sc_law_price : FnScope ["_law_game_here", "_law_before", "_law_wish", "_law_after_here"] ["_law_game_here", "_law_before", "_law_wish", "_law_after_here"] (defScope s_law_price) := ⟨rfl, rfl, rfl, by decide +kernel, rfl, by decide +kernel, by decide +kernel⟩
theorem sc_law_put : FnScope ["_law_room", "_law_before", "_law_wish", "_law_after_here", "_law_k", "_law_load"] ["_law_room", "_law_before", "_law_wish", "_law_after_here"] (defScope s_law_put) := ⟨rfl, rfl, rfl, by decide +kernel, rfl, by decide +kernel, by decide +kernel⟩
theorem sc_law_turned : FnScope ["_law_before", "_law_wish", "_law_after_here", "_law_found", "_law_k", "_law_j"] ["_law_before", "_law_wish", "_law_after_here"] (defScope s_law_turned) := ⟨rfl, rfl, rfl, by decide +kernel, rfl, by decide +kernel, by decide +kernel⟩
theorem sc_way_price : FnScope ["world", "start", "wishes", "way", "total", "before", "wish", "after", "price"] ["world", "start", "wishes", "way"] (defScope s_way_price) := ⟨rfl, rfl, rfl, by decide +kernel, rfl, by decide +kernel, by decide +kernel⟩
theorem sc_Ways_price : FnScope ["self", "before", "wish", "after"] ["self", "before", "wish", "after"] (defScope s_Ways_price) := ⟨rfl, rfl, rfl, by decide +kernel, rfl, by decide +kernel, by decide +kernel⟩
theorem sc_Store_price : FnScope ["self", "before", "wish", "after"] ["self", "before", "wish", "after"] (defScope s_Store_price) := ⟨rfl, rfl, rfl, by decide +kernel, rfl, by decide +kernel, by decide +kernel⟩
theorem sc_Shelf_price : FnScope ["self", "before", "wish", "after"] ["self", "before", "wish", "after"] (defScope s_Shelf_price) := ⟨rfl, rfl, rfl, by decide +kernel, rfl, by decide +kernel, by decide +kernel⟩
theorem sc_turned_pairs : FnScope ["before", "after"] ["before", "after"] (defScope s_turned_pairs) := ⟨rfl, rfl, rfl, by decide +kernel, rfl, by decide +kernel, by decide +kernel⟩
theorem sc_overtakers : FnScope ["order", "at", "other", "place"] ["order", "at", "other"] (defScope s_overtakers) := ⟨rfl, rfl, rfl, by decide +kernel, rfl, by decide +kernel, by decide +kernel⟩
theorem sc_Line_price : FnScope ["self", "before", "wish", "after"] ["self", "before", "wish", "after"] (defScope s_Line_price) := ⟨rfl, rfl, rfl, by decide +kernel, rfl, by decide +kernel, by decide +kernel⟩
theorem sc_ways_between : FnScope ["before", "after"] ["before", "after"] (defScope s_ways_between) := ⟨rfl, rfl, rfl, by decide +kernel, rfl, by decide +kernel, by decide +kernel⟩
theorem sc_Hire_price : FnScope ["self", "before", "wish", "after"] ["self", "before", "wish", "after"] (defScope s_Hire_price) := ⟨rfl, rfl, rfl, by decide +kernel, rfl, by decide +kernel, by decide +kernel⟩
theorem sc_Bags_price : FnScope ["self", "before", "wish", "after", "places"] ["self", "before", "wish", "after"] (defScope s_Bags_price) := ⟨rfl, rfl, rfl, by decide +kernel, rfl, by decide +kernel, by decide +kernel⟩
theorem sc_filled : FnScope ["loads", "at", "size"] ["loads", "at", "size"] (defScope s_filled) := ⟨rfl, rfl, rfl, by decide +kernel, rfl, by decide +kernel, by decide +kernel⟩
theorem sc_opened : FnScope ["loads", "size"] ["loads", "size"] (defScope s_opened) := ⟨rfl, rfl, rfl, by decide +kernel, rfl, by decide +kernel, by decide +kernel⟩
theorem sc_law_world : FnScope ["_law_game_here"] ["_law_game_here"] (defScope s_law_world) := ⟨rfl, rfl, rfl, by decide +kernel, rfl, by decide +kernel, by decide +kernel⟩
theorem sc_Bags_init : FnScope ["self", "room"] ["self", "room"] (defScope s_Bags_init) := ⟨rfl, rfl, rfl, by decide +kernel, rfl, by decide +kernel, by decide +kernel⟩
theorem sc_Store_init : FnScope ["self", "many"] ["self", "many"] (defScope s_Store_init) := ⟨rfl, rfl, rfl, by decide +kernel, rfl, by decide +kernel, by decide +kernel⟩
theorem sc_Ways_init : FnScope ["self", "many", "toll"] ["self", "many", "toll"] (defScope s_Ways_init) := ⟨rfl, rfl, rfl, by decide +kernel, rfl, by decide +kernel, by decide +kernel⟩
theorem sc_Shelf_init : FnScope ["self", "things"] ["self", "things"] (defScope s_Shelf_init) := ⟨rfl, rfl, rfl, by decide +kernel, rfl, by decide +kernel, by decide +kernel⟩
theorem sc_Line_init : FnScope ["self", "many"] ["self", "many"] (defScope s_Line_init) := ⟨rfl, rfl, rfl, by decide +kernel, rfl, by decide +kernel, by decide +kernel⟩
theorem sc_Hire_init : FnScope ["self", "whole"] ["self", "whole"] (defScope s_Hire_init) := ⟨rfl, rfl, rfl, by decide +kernel, rfl, by decide +kernel, by decide +kernel⟩
theorem sc_law_way : FnScope ["_law_script", "_law_game_here", "_law_straying", "_law_here", "_law_way_here", "_law_k", "_law_number", "_law_some", "_law_after_here"] ["_law_script", "_law_game_here", "_law_straying"] (defScope s_law_way) := ⟨rfl, rfl, rfl, by decide +kernel, rfl, by decide +kernel, by decide +kernel⟩
theorem sc_law_strayed : FnScope ["_law_game_here", "_law_before", "_law_wish", "_law_number", "_law_begin"] ["_law_game_here", "_law_before", "_law_wish", "_law_number"] (defScope s_law_strayed) := ⟨rfl, rfl, rfl, by decide +kernel, rfl, by decide +kernel, by decide +kernel⟩
theorem sc_law_after : FnScope ["_law_game_here", "_law_before", "_law_wish"] ["_law_game_here", "_law_before", "_law_wish"] (defScope s_law_after) := ⟨rfl, rfl, rfl, by decide +kernel, rfl, by decide +kernel, by decide +kernel⟩
theorem sc_law_put_out : FnScope ["_law_before", "_law_wish", "_law_game_here", "_law_found", "_law_k", "_law_others"] ["_law_before", "_law_wish", "_law_game_here"] (defScope s_law_put_out) := ⟨rfl, rfl, rfl, by decide +kernel, rfl, by decide +kernel, by decide +kernel⟩
theorem sc_law_orders : FnScope ["_law_things_here", "_law_found", "_law_k", "_law_row"] ["_law_things_here"] (defScope s_law_orders) := ⟨rfl, rfl, rfl, by decide +kernel, rfl, by decide +kernel, by decide +kernel⟩
theorem sc_law_mixed : FnScope ["_law_cell_here", "_law_k", "_law_number"] ["_law_cell_here", "_law_k"] (defScope s_law_mixed) := ⟨rfl, rfl, rfl, by decide +kernel, rfl, by decide +kernel, by decide +kernel⟩
theorem sc_law_cell : FnScope ["_law_script", "_law_k"] ["_law_script", "_law_k"] (defScope s_law_cell) := ⟨rfl, rfl, rfl, by decide +kernel, rfl, by decide +kernel, by decide +kernel⟩
theorem sc_law_game : FnScope ["_law_script", "_law_most", "_law_head", "_law_many", "_law_cells"] ["_law_script", "_law_most"] (defScope s_law_game) := ⟨rfl, rfl, rfl, by decide +kernel, rfl, by decide +kernel, by decide +kernel⟩
theorem sc_law_sizes : FnScope ["_law_head", "_law_cells", "_law_room", "_law_wishes", "_law_k", "_law_number", "_law_size", "_law_many"] ["_law_head", "_law_cells"] (defScope s_law_sizes) := ⟨rfl, rfl, rfl, by decide +kernel, rfl, by decide +kernel, by decide +kernel⟩
theorem sc_law_sum : FnScope ["_law_cell_here", "_law_k", "_law_number"] ["_law_cell_here", "_law_k"] (defScope s_law_sum) := ⟨rfl, rfl, rfl, by decide +kernel, rfl, by decide +kernel, by decide +kernel⟩
theorem sc_law_pages : FnScope ["_law_head", "_law_cells", "_law_many", "_law_names_here", "_law_wishes"] ["_law_head", "_law_cells"] (defScope s_law_pages) := ⟨rfl, rfl, rfl, by decide +kernel, rfl, by decide +kernel, by decide +kernel⟩
theorem sc_law_names : FnScope ["_law_number", "_law_many", "_law_size", "_law_at", "_law_letters", "_law_same_here", "_law_found", "_law_j", "_law_unlike"] ["_law_number", "_law_many"] (defScope s_law_names) := ⟨rfl, rfl, rfl, by decide +kernel, rfl, by decide +kernel, by decide +kernel⟩
theorem sc_law_charged : FnScope ["_law_head", "_law_cells", "_law_many", "_law_toll", "_law_wishes", "_law_k", "_law_number", "_law_wide"] ["_law_head", "_law_cells"] (defScope s_law_charged) := ⟨rfl, rfl, rfl, by decide +kernel, rfl, by decide +kernel, by decide +kernel⟩
theorem sc_law_things : FnScope ["_law_head", "_law_cells", "_law_many", "_law_names_here", "_law_turn", "_law_start", "_law_room"] ["_law_head", "_law_cells"] (defScope s_law_things) := ⟨rfl, rfl, rfl, by decide +kernel, rfl, by decide +kernel, by decide +kernel⟩
theorem sc_law_places : FnScope ["_law_head", "_law_cells", "_law_many", "_law_wide", "_law_places_here", "_law_wishes"] ["_law_head", "_law_cells"] (defScope s_law_places) := ⟨rfl, rfl, rfl, by decide +kernel, rfl, by decide +kernel, by decide +kernel⟩
theorem sc_law_hires : FnScope ["_law_head", "_law_cells", "_law_whole_here", "_law_start"] ["_law_head", "_law_cells"] (defScope s_law_hires) := ⟨rfl, rfl, rfl, by decide +kernel, rfl, by decide +kernel, by decide +kernel⟩
theorem set_perm : ∀ (l : List Int) (i : Nat) (w : Int), i < l.length → (l.set i w).Perm (w :: l.eraseIdx i)
  | [], _, _, h => by simp at h
  | x :: r, 0, w, _ => List.Perm.refl _
  | x :: r, i + 1, w, h => by
    have := set_perm r i w (by simpa using h)
    exact (this.cons x).trans (List.Perm.swap w x _)
theorem own_perm : ∀ (l : List Int) (i : Nat), i < l.length → l.Perm (l.getD i 0 :: l.eraseIdx i)
  | [], _, h => by simp at h
  | x :: r, 0, _ => List.Perm.refl _
  | x :: r, i + 1, h => by
    have := own_perm r i (by simpa using h)
    exact (this.cons x).trans (List.Perm.swap _ x _)
theorem set_same {l : List Int} {i j : Nat} {w : Int} (hi : i < l.length) (hj : j < l.length) (e : l.getD i 0 = l.getD j 0) : (l.set i w).Perm (l.set j w) := by
  have a := (own_perm l i hi).symm.trans (own_perm l j hj)
  rw [e] at a
  have b := (List.perm_cons _).mp a
  exact (set_perm l i w hi).trans ((b.cons w).trans (set_perm l j w hj).symm)
theorem sort_split (v : Int) : ∀ {l : List Int}, l.Pairwise (· ≤ ·) → l = (l.filter fun x => decide (x < v)) ++ l.filter fun x => !decide (x < v)
  | [], _ => rfl
  | x :: r, h => by
    have hr := sort_split v (List.Pairwise.of_cons h)
    by_cases c : x < v
    · simp only [List.filter_cons, decide_eq_true c, Bool.not_true, if_true, List.cons_append]
      rw [if_neg (by decide)]
      rw [← hr]
    · have hx := (List.pairwise_cons.mp h).1
      have e : r.filter (fun x => decide (x < v)) = [] := by
        rw [List.filter_eq_nil_iff]
        intro y hy
        have := hx y hy
        simp
        omega
      simp only [List.filter_cons, decide_eq_false c, Bool.not_false, if_true]
      rw [e] at hr
      rw [if_neg (by decide), e, List.nil_append]
      rw [List.nil_append] at hr
      rw [← hr]
theorem sorted_eq {a b : List Int} (h : a.Perm b) (s1 : a.Pairwise (· ≤ ·)) (s2 : b.Pairwise (· ≤ ·)) : a = b :=
  List.Perm.eq_of_pairwise (fun x y _ _ h1 h2 => Int.le_antisymm h1 h2) s1 s2 h
theorem getD_app {l m : List Int} {j : Nat} (h : j < l.length) : (l ++ m).getD j 0 = l.getD j 0 := by
  rw [List.getD_eq_getElem?_getD, List.getD_eq_getElem?_getD, List.getElem?_append_left h]
theorem getD_app2 {l m : List Int} {j : Nat} (h : ¬ j < l.length) (h2 : j < (l ++ m).length) : (l ++ m).getD j 0 ∈ m := by
  rw [List.getD_eq_getElem?_getD, List.getElem?_append_right (by omega), List.getElem?_eq_getElem (by rw [List.length_append] at h2; omega)]
  exact List.getElem_mem _
theorem mem_getD' {l : List Int} {j : Nat} (h : j < l.length) : l.getD j 0 ∈ l := by
  rw [List.getD_eq_getElem?_getD, List.getElem?_eq_getElem h]
  exact List.getElem_mem h
theorem first_diff {a b : List Int} {k j : Nat} {w : Int} (sa : a.Pairwise (· ≤ ·)) (sb : b.Pairwise (· ≤ ·)) (hk : k < a.length) (hw : a.getD k 0 < w) (hp : b.Perm (a.set k w)) (hj : j < a.length)
    (heq : ∀ i, i < j → a.getD i 0 = b.getD i 0) (hne : a.getD j 0 ≠ b.getD j 0) : a.getD j 0 = a.getD k 0 := by
  have hlen : b.length = a.length := by rw [hp.length_eq, List.length_set]
  generalize hv : a.getD k 0 = v at *
  have pb : b.Perm (w :: a.eraseIdx k) := hp.trans (set_perm a k w hk)
  have pa : a.Perm (v :: a.eraseIdx k) := by have := own_perm a k hk; rwa [hv] at this
  have c1 : ¬ a.getD j 0 < v := by
    intro q
    have f : (a.filter fun x => decide (x < v)) = b.filter fun x => decide (x < v) := by
      refine sorted_eq ?_ (sa.filter _) (sb.filter _)
      have e1 := pa.filter (fun x => decide (x < v))
      have e2 := pb.filter (fun x => decide (x < v))
      rw [List.filter_cons, if_neg (by simp)] at e1
      rw [List.filter_cons, if_neg (by simp; omega)] at e2
      exact e1.trans e2.symm
    have ea := sort_split v sa
    have eb := sort_split v sb
    by_cases hl : j < (a.filter fun x => decide (x < v)).length
    · refine hne ?_
      rw [ea, getD_app hl, f, ← getD_app (m := b.filter fun x => !decide (x < v)) (by rw [← f]; exact hl), ← eb]
    · have := getD_app2 (m := a.filter fun x => !decide (x < v)) hl (by rw [← ea]; exact hj)
      rw [← ea] at this
      have h3 := (List.mem_filter.mp this).2
      rw [decide_eq_true q] at h3
      cases h3
  by_cases c2 : v < a.getD j 0
  · exfalso
    have ct : ∀ l : List Int, l.count v = (l.take j).count v + (l.drop j).count v := fun l => by
      rw [← List.count_append, List.take_append_drop]
    have tk : a.take j = b.take j := by
      refine List.ext_getElem (by rw [List.length_take, List.length_take]; omega) fun i h1 h2 => ?_
      have hi : i < j := by rw [List.length_take] at h1; omega
      have := heq i hi
      rw [List.getD_eq_getElem?_getD, List.getD_eq_getElem?_getD, List.getElem?_eq_getElem (by omega), List.getElem?_eq_getElem (by omega)] at this
      rw [List.getElem_take, List.getElem_take]
      exact this
    have dz : (a.drop j).count v = 0 := by
      rw [List.count_eq_zero]
      intro hm
      obtain ⟨i, hi, e⟩ := List.getElem_of_mem hm
      rw [List.getElem_drop] at e
      have hij : j + i < a.length := by rw [List.length_drop] at hi; omega
      have le : a[j] ≤ a[j + i] := by
        by_cases z : i = 0
        · subst z; exact Int.le_refl _
        · exact List.pairwise_iff_getElem.mp sa j (j + i) hj hij (by omega)
      rw [List.getD_eq_getElem?_getD, List.getElem?_eq_getElem hj, Option.getD_some] at c2
      omega
    have n1 := pa.count_eq v
    have n2 := pb.count_eq v
    rw [List.count_cons_self] at n1
    rw [List.count_cons_of_ne (by omega)] at n2
    have n3 := ct a
    have n4 := ct b
    rw [tk] at n3
    omega
  · omega
theorem some_diff {a b : List Int} {k : Nat} {w : Int} (hk : k < a.length) (hw : a.getD k 0 < w) (hp : b.Perm (a.set k w)) : ∃ j, j < a.length ∧ a.getD j 0 ≠ b.getD j 0 := by
  have hlen : b.length = a.length := by rw [hp.length_eq, List.length_set]
  refine Classical.byContradiction fun no => ?_
  have e : a = b := by
    refine List.ext_getElem hlen.symm fun j h1 h2 => ?_
    refine Classical.byContradiction fun q => no ⟨j, h1, ?_⟩
    rw [List.getD_eq_getElem?_getD, List.getD_eq_getElem?_getD, List.getElem?_eq_getElem h1, List.getElem?_eq_getElem h2]
    exact q
  have pb : b.Perm (w :: a.eraseIdx k) := hp.trans (set_perm a k w hk)
  have pa := own_perm a k hk
  rw [← e] at pb
  have n1 := pa.count_eq w
  have n2 := pb.count_eq w
  rw [List.count_cons_self] at n2
  rw [List.count_cons_of_ne (by omega)] at n1
  omega
def Goes (R : Int) (os : List Int) (s : Int) (fs : List Int) (pr : Int) : Prop := fs.Pairwise (· ≤ ·) ∧ ((pr = 1 ∧ fs.Perm (os ++ [s])) ∨ (pr = 0 ∧ ∃ k, k < os.length ∧ os.getD k 0 + s ≤ R ∧ fs.Perm (os.set k (os.getD k 0 + s))))
def Lds (R : Int) (os : List Int) : Prop := os.Pairwise (· ≤ ·) ∧ ∀ x ∈ os, 1 ≤ x ∧ x ≤ R
theorem set_tk {l : List Int} {k : Nat} {w : Int} (h : k < l.length) : l.take k ++ [w] ++ l.drop (k + 1) = l.set k w := by
  rw [List.set_eq_take_append_cons_drop, if_pos h]
  simp
def prI (os L : List Int) : Int := if L.length = os.length then 0 else 1
theorem Goes.pr {R s pr : Int} {os L : List Int} (h : Goes R os s L pr) : pr = prI os L := by
  unfold prI
  rcases h.2 with ⟨e, p⟩ | ⟨e, k, hk, _, p⟩
  · have := p.length_eq
    rw [List.length_append, List.length_singleton] at this
    rw [if_neg (by omega), e]
  · have := p.length_eq
    rw [List.length_set] at this
    rw [if_pos this, e]
def PrV (R : Int) (os : List Int) (s : Int) (L : List Int) (v : V) : Prop := (∃ pr, Goes R os s L pr ∧ v = .int pr) ∨ ((∀ pr, ¬ Goes R os s L pr) ∧ v = .non)
theorem PrV.uniq {R s : Int} {os L : List Int} {v u : V} (h : PrV R os s L v) (k : PrV R os s L u) : v = u := by
  rcases h with ⟨p, h1, rfl⟩ | ⟨h1, rfl⟩ <;> rcases k with ⟨q, k1, rfl⟩ | ⟨k1, rfl⟩
  · rw [h1.pr, k1.pr]
  · exact absurd h1 (k1 p)
  · exact absurd k1 (h1 q)
  · rfl
theorem PrV.some (R s : Int) (os L : List Int) : ∃ v, PrV R os s L v := by
  by_cases h : ∃ pr, Goes R os s L pr
  · obtain ⟨pr, h⟩ := h
    exact ⟨_, .inl ⟨pr, h, rfl⟩⟩
  · exact ⟨_, .inr ⟨fun pr q => h ⟨pr, q⟩, rfl⟩⟩
inductive PairsV (H : Hp) : List V → List (List Int × V) → Prop
  | nil : PairsV H [] []
  | cons {c a : Addr} {L : List Int} {x : V} {vs : List V} {Ks : List (List Int × V)} : H c = some (.tup [.ref a, x]) → H a = some (.tup (L.map V.int)) → PairsV H vs Ks → PairsV H (.ref c :: vs) ((L, x) :: Ks)
def nmL (c : Nat) : Bool := decide (97 ≤ c) && decide (c ≤ 122)
def nmS (z : Str) : Bool := decide (1 ≤ z.length) && decide (z.length ≤ 8) && z.cps.toList.all nmL
theorem nmS_asc {z : Str} (h : nmS z = true) : AscS z := by
  unfold nmS at h
  rw [Bool.and_eq_true] at h
  unfold AscS
  rw [Array.all_eq_true_iff_forall_mem]
  intro c hc
  have := List.all_eq_true.mp h.2 c (by simpa using hc)
  unfold nmL at this
  rw [Bool.and_eq_true, decide_eq_true_iff, decide_eq_true_iff] at this
  exact decide_eq_true (by omega)
structure Names (ss : List Str) : Prop where
  nm : ∀ s ∈ ss, nmS s = true
  nd : ss.Nodup
  lo : 1 ≤ ss.length
  hi : ss.length ≤ 8
def ovt (o q : List Str) (i : Nat) : Nat := ((o.drop (i + 1)).filter fun t => decide (q.idxOf t < q.idxOf (o.getD i ⟨#[]⟩))).length
def trn (o q : List Str) : Int := ((List.range o.length).map fun i => (ovt o q i : Int)).sum
theorem str_ext {a b : Str} (h : a.cps.toList = b.cps.toList) : a = b := by
  cases a; cases b
  congr 1
  exact Array.toList_inj.mp h
theorem inV_strs (x : Str) (ss : List Str) : inV (.str x) (ss.map V.str) = decide (x ∈ ss) := by
  unfold inV
  rw [List.any_map, Bool.eq_iff_iff, List.any_eq_true, decide_eq_true_iff]
  constructor
  · rintro ⟨y, hy, e⟩
    have : y = x := by simpa [eqV] using e
    exact this ▸ hy
  · intro h
    exact ⟨x, h, by simp [eqV]⟩
theorem flat_strs (ss : List Str) : (ss.map V.str).all flatV = true := by rw [List.all_map, List.all_eq_true]; intro x _; rfl
theorem get_str {ss : List Str} {i : Nat} {y : V} (h : (ss.map V.str)[i]? = some y) : ∃ x, ss[i]? = some x ∧ y = .str x := by
  rw [List.getElem?_map] at h
  obtain ⟨x, h1, h2⟩ := Option.map_eq_some_iff.mp h
  exact ⟨x, h1, h2.symm⟩
theorem atI_strs {ss : List Str} {k : Int} (h0 : 0 ≤ k) (h1 : k < ss.length) : atI (ss.map V.str) k = some (.str (ss.getD k.toNat ⟨#[]⟩)) := by
  refine atI_int h0 ?_
  rw [List.getElem?_map, List.getD_eq_getElem?_getD, List.getElem?_eq_getElem (show k.toNat < ss.length by omega)]
  rfl
theorem strs_trep {H : Hp} {p : Addr} {ss : List Str} (h : H p = some (.tup (ss.map V.str))) : Rep H (.tup (ss.map D.str)) (.ref p) := Rep.tupI h (by
  clear h
  induction ss with
  | nil => exact .nil
  | cons x r ih => exact .cons .strI ih)
theorem depS (ss : List Str) : D.depthL (ss.map D.str) = 0 := by
  induction ss with
  | nil => rfl
  | cons x r ih => show max 0 (D.depthL (r.map D.str)) = 0; rw [ih]; rfl
theorem nmS_ok {z : Str} (h : nmS z = true) : PyData.strOk z = true := by
  have h1 := nmS_asc h
  unfold AscS at h1
  unfold PyData.strOk
  rw [Array.all_eq_true_iff_forall_mem] at h1 ⊢
  intro c hc
  have := of_decide_eq_true (h1 c hc)
  exact decide_eq_true (by omega)
theorem eqOkS : ∀ {ss : List Str}, (∀ s ∈ ss, nmS s = true) → (D.lst (ss.map D.str)).eqOk = true
  | [], _ => rfl
  | x :: r, h => by
    show (PyData.strOk x && D.eqOkL (r.map D.str)) = true
    rw [nmS_ok (h x List.mem_cons_self), Bool.true_and]
    exact eqOkS (ss := r) fun s hs => h s (List.mem_cons_of_mem _ hs)
theorem getD_in {ss : List Str} {i : Nat} (h : i < ss.length) : ss.getD i ⟨#[]⟩ ∈ ss := by rw [List.getD_eq_getElem?_getD, List.getElem?_eq_getElem h]; exact List.getElem_mem h
theorem cut_to {ss : List Str} {i : Nat} (h : i ≤ ss.length) : cutV (ss.map V.str) none (some (i : Int)) = (ss.take i).map V.str := by
  unfold cutV
  rw [HT.sIx_none, HT.sIx_nat, List.length_map, Nat.min_eq_left h, List.drop_zero, Nat.sub_zero, List.map_take]
theorem cut_from {ss : List Str} {i : Nat} (h : i ≤ ss.length) : cutV (ss.map V.str) (some (i : Int)) none = (ss.drop i).map V.str := by
  unfold cutV
  rw [HT.sIx_nat, HT.sIx_none, List.length_map, Nat.min_eq_left h, ← List.map_drop, List.take_of_length_le (by rw [List.length_map, List.length_drop]; exact Nat.le_refl _)]
theorem trn_cons (x : Str) (r qs : List Str) : trn (x :: r) qs = ((r.filter fun t => decide (qs.idxOf t < qs.idxOf x)).length : Nat) + trn r qs := by
  unfold trn
  rw [List.length_cons, List.range_succ_eq_map, List.map_cons, List.sum_cons, List.map_map]
  rfl
theorem trn_nil (qs : List Str) : trn [] qs = 0 := rfl
theorem trn_snoc (qs : List Str) (y : Str) : ∀ l : List Str, trn (l ++ [y]) qs = trn l qs + ((l.filter fun t => decide (qs.idxOf y < qs.idxOf t)).length : Nat)
  | [] => by rw [List.nil_append, trn_cons, trn_nil]; rfl
  | x :: r => by
    rw [List.cons_append, trn_cons, trn_snoc qs y r, trn_cons, List.filter_append, List.length_append, List.filter_cons (x := x)]
    by_cases c : qs.idxOf y < qs.idxOf x
    · rw [if_pos (decide_eq_true c), List.filter_cons, if_pos (decide_eq_true c), List.filter_nil, List.length_cons, List.length_cons]
      simp only [List.length_nil]
      omega
    · rw [if_neg (by simpa using c), List.filter_cons, if_neg (by simpa using c), List.filter_nil]
      simp only [List.length_nil]
      omega
def ways (ns ms : List Int) : Int := (List.zipWith (fun a b : Int => ((a - b).natAbs : Int)) ns ms).sum
inductive StG where | i (z : Int) | l (ns : List Int) | t (ss : List Str)
inductive WsG where | i (z : Int) | s (x : Str) | l (ns : List Int)
def StG.at_ (H : Hp) : StG → V → Prop
  | .i z, v => v = .int z
  | .l ns, v => ∃ p, v = .ref p ∧ H p = some (.tup (ns.map V.int))
  | .t ss, v => ∃ p, v = .ref p ∧ H p = some (.tup (ss.map V.str))
def WsG.at_ (H : Hp) : WsG → V → Prop
  | .i z, v => v = .int z
  | .s x, v => v = .str x
  | .l ns, v => ∃ p, v = .ref p ∧ H p = some (.tup (ns.map V.int))
theorem StG.mono {H H' : Hp} (e : Ext H H') {s : StG} {v : V} (h : s.at_ H v) : s.at_ H' v := by
  cases s with
  | i z => exact h
  | l ns => obtain ⟨p, h1, h2⟩ := h; exact ⟨p, h1, e _ _ h2⟩
  | t ss => obtain ⟨p, h1, h2⟩ := h; exact ⟨p, h1, e _ _ h2⟩
theorem WsG.mono {H H' : Hp} (e : Ext H H') {s : WsG} {v : V} (h : s.at_ H v) : s.at_ H' v := by
  cases s with
  | i z => exact h
  | s z => exact h
  | l ns => obtain ⟨p, h1, h2⟩ := h; exact ⟨p, h1, e _ _ h2⟩
theorem StG.but {H H' : Hp} {x : Addr} {zs : List V} (hx : H x = some (.lst zs)) (b : But x H H') {s : StG} {v : V} (h : s.at_ H v) : s.at_ H' v := by
  cases s with
  | i z => exact h
  | l ns => obtain ⟨p, h1, h2⟩ := h; exact ⟨p, h1, b _ _ (ne_of h2 hx (by intro z; cases z)) h2⟩
  | t ss => obtain ⟨p, h1, h2⟩ := h; exact ⟨p, h1, b _ _ (ne_of h2 hx (by intro z; cases z)) h2⟩
theorem WsG.but {H H' : Hp} {x : Addr} {zs : List V} (hx : H x = some (.lst zs)) (b : But x H H') {s : WsG} {v : V} (h : s.at_ H v) : s.at_ H' v := by
  cases s with
  | i z => exact h
  | s z => exact h
  | l ns => obtain ⟨p, h1, h2⟩ := h; exact ⟨p, h1, b _ _ (ne_of h2 hx (by intro z; cases z)) h2⟩
def AllR {α : Type} (f : α → V → Prop) : List α → List V → Prop
  | [], [] => True
  | a :: as, v :: vs => f a v ∧ AllR f as vs
  | _, _ => False
theorem AllR.len {α : Type} {f : α → V → Prop} : ∀ {as : List α} {vs : List V}, AllR f as vs → as.length = vs.length
  | [], [], _ => rfl
  | _ :: _, _ :: _, ⟨_, h⟩ => by rw [List.length_cons, List.length_cons, AllR.len h]
  | [], _ :: _, h => h.elim
  | _ :: _, [], h => h.elim
theorem AllR.imp {α : Type} {f g : α → V → Prop} (k : ∀ {a v}, f a v → g a v) : ∀ {as : List α} {vs : List V}, AllR f as vs → AllR g as vs
  | [], [], _ => trivial
  | _ :: _, _ :: _, ⟨h1, h⟩ => ⟨k h1, AllR.imp k h⟩
  | [], _ :: _, h => h.elim
  | _ :: _, [], h => h.elim
theorem AllR.get {α : Type} {f : α → V → Prop} : ∀ {as : List α} {vs : List V} {i : Nat} {v : V}, AllR f as vs → vs[i]? = some v → ∃ a, as[i]? = some a ∧ f a v
  | [], [], _, _, _, e => by simp at e
  | a :: as, u :: vs, 0, v, ⟨h1, h⟩, e => ⟨a, rfl, by simp at e; rw [← e]; exact h1⟩
  | a :: as, u :: vs, i + 1, v, ⟨h1, h⟩, e => by simpa using AllR.get (i := i) h (by simpa using e)
  | [], _ :: _, _, _, h, _ => h.elim
  | _ :: _, [], _, _, h, _ => h.elim
theorem AllR.snoc {α : Type} {f : α → V → Prop} {a : α} {v : V} (k : f a v) : ∀ {as : List α} {vs : List V}, AllR f as vs → AllR f (as ++ [a]) (vs ++ [v])
  | [], [], _ => ⟨k, trivial⟩
  | _ :: _, _ :: _, ⟨h1, h⟩ => ⟨h1, AllR.snoc k h⟩
  | [], _ :: _, h => h.elim
  | _ :: _, [], h => h.elim
theorem all_i {H : Hp} : ∀ ns : List Int, AllR (WsG.at_ H) (ns.map WsG.i) (ns.map V.int)
  | [] => trivial
  | _ :: r => ⟨rfl, all_i r⟩
theorem all_s {H : Hp} : ∀ ss : List Str, AllR (WsG.at_ H) (ss.map WsG.s) (ss.map V.str)
  | [] => trivial
  | _ :: r => ⟨rfl, all_s r⟩
theorem all_si {H : Hp} : ∀ ns : List Int, AllR (StG.at_ H) (ns.map StG.i) (ns.map V.int)
  | [] => trivial
  | _ :: r => ⟨rfl, all_si r⟩
theorem all_refsT {H : Hp} {vs : List V} {Ls : List (List Str)} (r : RefsHT H vs Ls) : AllR (StG.at_ H) (Ls.map StG.t) vs := by
  induction r with
  | nil => trivial
  | cons x _ ih => exact ⟨⟨_, rfl, x⟩, ih⟩
inductive Gm where | hire (W : Int) | line (m : Nat) | shelf (ts : List Str) | wys (m : Nat) (t : Int) | store (m : Nat) | bags (R : Int)
def Gm.no : Gm → Int
  | .hire _ => 0 | .line _ => 1 | .shelf _ => 2 | .wys _ _ => 3 | .store _ => 4 | .bags _ => 5
def Gm.pv (H : Hp) : Gm → V → Prop
  | .hire W, v => v = .int W
  | .line m, v => v = .int (m : Nat)
  | .shelf ts, v => ∃ p, v = .ref p ∧ H p = some (.tup (ts.map V.str))
  | .wys m t, v => ∃ p, v = .ref p ∧ H p = some (.tup [.int (m : Nat), .int t])
  | .store m, v => v = .int (m : Nat)
  | .bags R, v => v = .int R
theorem Gm.pv_mono {H H' : Hp} (e : Ext H H') {g : Gm} {v : V} (h : g.pv H v) : g.pv H' v := by
  cases g with
  | shelf ts => obtain ⟨p, h1, h2⟩ := h; exact ⟨p, h1, e _ _ h2⟩
  | wys m t => obtain ⟨p, h1, h2⟩ := h; exact ⟨p, h1, e _ _ h2⟩
  | _ => exact h
def Gm.wf : Gm → Prop
  | .hire _ => True
  | .line m => 1 ≤ m ∧ m ≤ 3
  | .shelf ts => 1 ≤ ts.length ∧ ts.length ≤ 4 ∧ ∀ x ∈ ts, nmS x = true
  | .wys m _ => 1 ≤ m ∧ m ≤ 4
  | .store m => 1 ≤ m ∧ m ≤ 4
  | .bags R => 1 ≤ R
def Gm.ok : Gm → Nat → StG → Prop
  | .hire _, _, s => s = .i 0 ∨ s = .i 1
  | .line m, _, s => ∃ ns, s = .l ns ∧ ns.length = m
  | .shelf ts, _, s => ∃ ss, s = .t ss ∧ ss.Perm ts
  | .wys m _, _, s => ∃ z : Int, s = .i z ∧ 0 ≤ z ∧ z < m
  | .store m, _, s => ∃ ss, s = .t ss ∧ ss.length = m ∧ ∀ x ∈ ss, nmS x = true
  | .bags R, n, s => ∃ ns, s = .l ns ∧ Lds R ns ∧ ns.length ≤ n
def Gm.okW : Gm → WsG → Prop
  | .hire _, w => ∃ z, w = .i z
  | .line _, w => ∃ z, w = .i z
  | .shelf ts, w => ∃ x, w = .s x ∧ x ∈ ts
  | .wys m _, w => ∃ ns, w = .l ns ∧ ns.length = m
  | .store _, w => ∃ x, w = .s x ∧ nmS x = true
  | .bags R, w => ∃ z, w = .i z ∧ 1 ≤ z ∧ z ≤ R
def Gm.pp : Gm → StG → WsG → StG → V → Prop
  | .hire W, .i b, .i w, .i a, v => v = if b = 1 then (if a = 1 then .int 0 else .non) else (if a = 1 then .int W else .int w)
  | .line _, .l b, .i w, .l a, v => v = if w ∈ a then .int (ways b a) else .non
  | .shelf _, .t b, .s w, .t a, v => v = .int (trn b a + (a.idxOf w : Nat) + 1)
  | .wys _ t, .i b, .l w, .i a, v => v = .int (if a = b then w.getD a.toNat 0 else w.getD a.toNat 0 + t)
  | .store _, .t b, .s w, .t a, v => v = if w ∈ a then .int ((a.filter fun x => !decide (x ∈ b)).length : Nat) else .non
  | .bags R, .l b, .i w, .l a, v => PrV R b w a v
  | _, _, _, _, _ => False
theorem Gm.ok_mono {g : Gm} {n m : Nat} {s : StG} (h : g.ok n s) (l : n ≤ m) : g.ok m s := by
  cases g with
  | bags R => obtain ⟨ns, h1, h2, h3⟩ := h; exact ⟨ns, h1, h2, Nat.le_trans h3 l⟩
  | _ => exact h
theorem Gm.pp_some {g : Gm} {n m : Nat} {b a : StG} {w : WsG} (hb : g.ok n b) (hw : g.okW w) (ha : g.ok m a) : ∃ v, g.pp b w a v := by
  cases g with
  | hire W =>
    obtain ⟨z, rfl⟩ := hw
    rcases hb with rfl | rfl <;> rcases ha with rfl | rfl <;> exact ⟨_, rfl⟩
  | line m => obtain ⟨z, rfl⟩ := hw; obtain ⟨_, rfl, _⟩ := hb; obtain ⟨_, rfl, _⟩ := ha; exact ⟨_, rfl⟩
  | shelf ts => obtain ⟨z, rfl, _⟩ := hw; obtain ⟨_, rfl, _⟩ := hb; obtain ⟨_, rfl, _⟩ := ha; exact ⟨_, rfl⟩
  | wys m t => obtain ⟨z, rfl, _⟩ := hw; obtain ⟨_, rfl, _⟩ := hb; obtain ⟨_, rfl, _⟩ := ha; exact ⟨_, rfl⟩
  | store m => obtain ⟨z, rfl, _⟩ := hw; obtain ⟨_, rfl, _⟩ := hb; obtain ⟨_, rfl, _⟩ := ha; exact ⟨_, rfl⟩
  | bags R => obtain ⟨z, rfl, _⟩ := hw; obtain ⟨_, rfl, _⟩ := hb; obtain ⟨_, rfl, _⟩ := ha; exact PrV.some _ _ _ _
theorem Gm.pp_val {g : Gm} {b a : StG} {w : WsG} {v : V} (h : g.pp b w a v) : v = .non ∨ ∃ i, v = .int i := by
  unfold Gm.pp at h
  split at h
  · rw [h]; split <;> split <;> first | exact .inl rfl | exact .inr ⟨_, rfl⟩
  · rw [h]; split <;> first | exact .inl rfl | exact .inr ⟨_, rfl⟩
  · exact .inr ⟨_, h⟩
  · exact .inr ⟨_, h⟩
  · rw [h]; split <;> first | exact .inl rfl | exact .inr ⟨_, rfl⟩
  · rcases h with ⟨p, _, e⟩ | ⟨_, e⟩
    · exact .inr ⟨p, e⟩
    · exact .inl e
  · exact h.elim
def DueG (g : Gm) : StG → List (WsG × StG) → Int → V → Prop
  | _, [], t, v => v = .int t
  | b, (w, a) :: r, t, v => ∃ x, g.pp b w a x ∧ ((x = .non ∧ v = .non) ∨ ∃ p, x = .int p ∧ DueG g a r (t + p) v)
theorem DueG.some {g : Gm} : ∀ (ps : List (WsG × StG)) (b : StG) (t : Int), g.ok 40 b → (∀ p ∈ ps, g.okW p.1 ∧ g.ok 40 p.2) → ∃ v, DueG g b ps t v
  | [], b, t, _, _ => ⟨_, rfl⟩
  | (w, a) :: r, b, t, hb, h => by
    obtain ⟨h1, h2⟩ := h _ List.mem_cons_self
    obtain ⟨x, hx⟩ := Gm.pp_some hb h1 h2
    rcases Gm.pp_val hx with e | ⟨p, e⟩
    · exact ⟨.non, x, hx, .inl ⟨e, rfl⟩⟩
    · obtain ⟨v, hv⟩ := DueG.some r a (t + p) h2 fun q hq => h q (List.mem_cons_of_mem _ hq)
      exact ⟨v, x, hx, .inr ⟨p, e, hv⟩⟩
theorem DueG.val {g : Gm} : ∀ {ps : List (WsG × StG)} {b : StG} {t : Int} {v : V}, DueG g b ps t v → v = .non ∨ ∃ i, v = .int i
  | [], _, _, _, h => .inr ⟨_, h⟩
  | (_, _) :: r, _, _, _, ⟨x, _, h⟩ => by
    rcases h with ⟨_, e⟩ | ⟨p, _, h⟩
    · exact .inl e
    · exact DueG.val h
def WoP (a : Adr) (H : Hp) : Gm → Addr → Prop
  | .hire W, r => ∃ dw, H r = some (.ins a.c_Hire dw [("whole", .int W)])
  | .line m, r => ∃ dw, H r = some (.ins a.c_Line dw [("many", .int (m : Nat))])
  | .shelf _, r => ∃ dw v, H r = some (.ins a.c_Shelf dw [("things", v)])
  | .wys m t, r => ∃ dw, H r = some (.ins a.c_Ways dw [("many", .int (m : Nat)), ("toll", .int t)])
  | .store m, r => ∃ dw, H r = some (.ins a.c_Store dw [("many", .int (m : Nat))])
  | .bags R, r => ∃ dw, H r = some (.ins a.c_Bags dw [("room", .int R)])
theorem WoP.mono {a : Adr} {H H' : Hp} (e : Ext H H') {g : Gm} {r : Addr} (h : WoP a H g r) : WoP a H' g r := by
  cases g with
  | shelf ts => obtain ⟨d, v, h⟩ := h; exact ⟨d, v, e _ _ h⟩
  | hire W => obtain ⟨d, h⟩ := h; exact ⟨d, e _ _ h⟩
  | line W => obtain ⟨d, h⟩ := h; exact ⟨d, e _ _ h⟩
  | wys W t => obtain ⟨d, h⟩ := h; exact ⟨d, e _ _ h⟩
  | store W => obtain ⟨d, h⟩ := h; exact ⟨d, e _ _ h⟩
  | bags W => obtain ⟨d, h⟩ := h; exact ⟨d, e _ _ h⟩
def GameV (H : Hp) (gl : Addr) (g : Gm) (st : StG) (ws : List WsG) : Prop := ∃ gv sv wl wvs, H gl = some (.lst [.int g.no, gv, sv, .ref wl]) ∧ g.pv H gv ∧ st.at_ H sv ∧ H wl = some (.lst wvs) ∧ AllR (WsG.at_ H) ws wvs
def GameOk (g : Gm) (st : StG) (ws : List WsG) : Prop := g.wf ∧ g.ok 4 st ∧ (∀ w ∈ ws, g.okW w) ∧ ws.length ≤ 12
theorem GameV.mono {H H' : Hp} (e : Ext H H') {gl : Addr} {g : Gm} {st : StG} {ws : List WsG} (h : GameV H gl g st ws) : GameV H' gl g st ws := by
  obtain ⟨gv, sv, wl, wvs, h1, h2, h3, h4, h5⟩ := h
  exact ⟨gv, sv, wl, wvs, e _ _ h1, Gm.pv_mono e h2, StG.mono e h3, e _ _ h4, h5.imp fun k => WsG.mono e k⟩
theorem PrV.one {R s : Int} {os L : List Int} {v : V} (h : PrV R os s L v) (hg : Goes R os s L 1) : v = .int 1 := h.uniq (.inl ⟨1, hg, rfl⟩)
theorem PrV.nought {R s : Int} {os L : List Int} {v : V} (h : PrV R os s L v) (hg : Goes R os s L 0) : v = .int 0 := h.uniq (.inl ⟨0, hg, rfl⟩)
theorem PrV.no {R s : Int} {os L : List Int} {v : V} (h : PrV R os s L v) (hg : ∀ pr, ¬ Goes R os s L pr) : v = .non := h.uniq (.inr ⟨hg, rfl⟩)
def GameQ (H : Hp) (Q : VK) : Prop := ∀ gl g st ws H', H gl = none → GameV H' gl g st ws → GameOk g st ws → Ext H H' → Q (.ref gl) H'
theorem ok01 (b : Bool) : StG.i (if b = true then 1 else 0) = .i 0 ∨ StG.i (if b = true then 1 else 0) = .i 1 := by cases b <;> simp
theorem ibh {h : Int} (h0 : 0 ≤ h) (h1 : h < 2147483629) : ib h ≤ 1048577 := Nat.le_trans (show ib h ≤ 31 from intBits_le (by omega)) (by decide)
theorem wi_all {g : Gm} {xs : List Int} (h : ∀ x ∈ xs, g.okW (.i x)) : ∀ w ∈ xs.map WsG.i, g.okW w := fun w hw => by
  obtain ⟨x, hx, rfl⟩ := List.mem_map.mp hw
  exact h x hx
theorem ws_all {g : Gm} {xs : List Str} (h : ∀ x ∈ xs, g.okW (.s x)) : ∀ w ∈ xs.map WsG.s, g.okW w := fun w hw => by
  obtain ⟨x, hx, rfl⟩ := List.mem_map.mp hw
  exact h x hx
theorem r_srtL {K : PySem.W.Frag} {H : Hp} {Q : VK} {p : Addr} {ns : List Int} (h : H p = some (.lst (ns.map V.int))) (hl : ns.length < 64) (q : ∀ l (ns' : List Int) H', H l = none → ns'.Perm ns → ns'.Pairwise (· ≤ ·) → H' l = some (.lst (ns'.map V.int)) → Ext H H' → Q (.ref l) H') : rSortW K [.ref p] H Q := .inl (r_sortedL h hl q)
def HeadP (us : List V) (H : Hp) (h : Int) (p : Addr) (cs : List Int) : Prop := us = [.int h, .ref p] ∧ 0 ≤ h ∧ h < 2147483629 ∧ H p = some (.lst (cs.map V.int)) ∧ cs.length ≤ 12 ∧ ∀ c ∈ cs, ib c ≤ 1048576
theorem cutL_to {os : List Int} {i : Nat} (h : i ≤ os.length) : cutV (os.map V.int) none (some (i : Int)) = (os.take i).map V.int := by
  unfold cutV
  rw [HT.sIx_none, HT.sIx_nat, List.length_map, Nat.min_eq_left h, List.drop_zero, Nat.sub_zero, List.map_take]
theorem r_neSS {H : Hp} {Q : VK} {i j : Str} (q : Q (.bl (!decide (i = j))) H) : rNe (.str i) (.str j) H Q := by
  refine ⟨rfl, ?_⟩
  have e : decide (V.str i = V.str j) = decide (i = j) := decide_eq_decide.mpr ⟨fun z => by cases z; rfl, fun z => z ▸ rfl⟩
  show Q (.bl (!decide (V.str i = V.str j))) H
  rw [e]; exact q
def wdN (way size f a0 c0 k : Nat) : List Nat := if way = 2 then List.replicate (k + 1) f else List.replicate (if way = 0 then a0 else k % size) f ++ (97 + (c0 + 7 * k) % 26) :: List.replicate (size - (if way = 0 then a0 else k % size) - 1) f
structure WdOk (way size f a0 : Nat) : Prop where
  s1 : 1 ≤ size
  s8 : size ≤ 8
  f1 : 97 ≤ f
  f2 : f ≤ 122
  a1 : a0 < size
theorem wd_at {way size f a0 c0 k : Nat} (h : WdOk way size f a0) (hw : way ≠ 2) : ∃ a, a < size ∧ wdN way size f a0 c0 k = List.replicate a f ++ (97 + (c0 + 7 * k) % 26) :: List.replicate (size - a - 1) f ∧ a = if way = 0 then a0 else k % size := by
  refine ⟨if way = 0 then a0 else k % size, ?_, ?_, rfl⟩
  · split
    · exact h.a1
    · exact Nat.mod_lt _ h.s1
  · unfold wdN
    rw [if_neg hw]
theorem wd_nm {way size f a0 c0 k : Nat} (h : WdOk way size f a0) (hk : k < 8) : nmS ⟨(wdN way size f a0 c0 k).toArray⟩ = true := by
  have hf1 := h.f1
  have hf2 := h.f2
  have hs1 := h.s1
  have hs8 := h.s8
  have el : (⟨(wdN way size f a0 c0 k).toArray⟩ : Str).length = (wdN way size f a0 c0 k).length := rfl
  unfold nmS
  rw [el]
  have ll : 1 ≤ (wdN way size f a0 c0 k).length ∧ (wdN way size f a0 c0 k).length ≤ 8 ∧ ∀ c ∈ wdN way size f a0 c0 k, 97 ≤ c ∧ c ≤ 122 := by
    by_cases hw : way = 2
    · unfold wdN
      rw [if_pos hw, List.length_replicate]
      refine ⟨by omega, by omega, fun c hc => ?_⟩
      rw [List.eq_of_mem_replicate hc]
      exact ⟨hf1, hf2⟩
    · obtain ⟨a, ha, ea, _⟩ := wd_at (c0 := c0) (k := k) h hw
      rw [ea]
      refine ⟨by simp; omega, by simp; omega, fun c hc => ?_⟩
      rcases List.mem_append.mp hc with hc | hc
      · rw [List.eq_of_mem_replicate hc]; exact ⟨hf1, hf2⟩
      · rcases List.mem_cons.mp hc with rfl | hc
        · omega
        · rw [List.eq_of_mem_replicate hc]; exact ⟨hf1, hf2⟩
  rw [decide_eq_true ll.1, decide_eq_true ll.2.1, Bool.true_and, Bool.true_and, List.all_eq_true]
  intro c hc
  have := ll.2.2 c (by simpa using hc)
  unfold nmL
  rw [decide_eq_true this.1, decide_eq_true this.2]
  rfl
def wdS (way size f a0 c0 k : Nat) : Str := ⟨(wdN way size f a0 c0 k).toArray⟩
theorem Str_app (a b : Str) : (a ++ b).cps.toList = a.cps.toList ++ b.cps.toList := by
  show (a.cps ++ b.cps).toList = _
  simp
theorem mul_one (f n : Nat) : (mulS ⟨#[f]⟩ n).cps.toList = List.replicate n f := by
  show ((List.replicate n [f]).flatten).toArray.toList = _
  rw [flat_one]
theorem one_len (c : Nat) : (⟨#[c]⟩ : Str).length = 1 := rfl
theorem abc_len : (Str.ofString "abcdefghijklmnopqrstuvwxyz").length = 26 := by decide
theorem abc_at {i : Int} (h0 : 0 ≤ i) (h1 : i < 26) : atI (Str.ofString "abcdefghijklmnopqrstuvwxyz").cps.toList i = some (97 + i.toNat) := by
  have e : (Str.ofString "abcdefghijklmnopqrstuvwxyz").cps.toList = (List.range 26).map (97 + ·) := by decide
  rw [e]
  refine atI_int h0 ?_
  rw [List.getElem?_map, List.getElem?_range (by omega)]
  rfl
def sp_law_whole : Sp := fun vs H Q _ => ∃ x k, vs = [x] ∧ HasK H x k ∧ Q (.bl (k == .int)) H
theorem ok_law_whole (T : Txt K mg a) : FnOk P w K mg base (CXU P w) 1 a.f_law_whole a.d_law_whole ["_law_found"] (sp_law_whole) := by
  refine T.F_law_whole.okU sc_law_whole (fun vs H Q E h => ?_) (fun cdv A outer s H vs Q E hr h => ?_)
  · obtain ⟨x, k, rfl, hk, hq⟩ := h
    rfl
  · obtain ⟨x, k, rfl, hk, hq⟩ := h
    refine ⟨_, (pss_one (ps_ret (pe_and (pe_callB cIsin (by rfl) T.n_isinstance PyProof.Rows.boot_isinstance (pa_cons (pv 0) (pa_cons (pe_bltn (v := V.ty "int") (by rfl) T.n_int PyProof.Rows.boot_int rfl) pa_nil))) (pe_one (pe_not (pe_callB cIsin (by rfl) T.n_isinstance PyProof.Rows.boot_isinstance (pa_cons (pv 0) (pa_cons (pe_bltn (v := V.ty "bool") (by rfl) T.n_bool PyProof.Rows.boot_bool rfl) pa_nil)))))))), ?_⟩
    repeat walk_at "vs"
    refine r_isI hk ?_
    cases k <;> (repeat walk_at "vs") <;> first | exact hq | (refine r_isB hk ?_; (repeat walk_at "vs"); exact hq)
def sp_law_same (n : Nat) : Sp := fun vs H Q _ => ∃ x y d1 d2, vs = [x, y] ∧ Rep H d1 x ∧ Rep H d2 y ∧ d2.fine = true ∧ d2.depth ≤ n ∧ ∀ b H', (b = true ↔ d1 = d2) → Ext H H' → Q (.bl b) H'
def sp_law_all_same (n : Nat) : Sp := fun vs H Q _ => ∃ p q xs ys ds es, vs = [.ref p, .ref q] ∧ H p = some (.lst xs) ∧ H q = some (.lst ys) ∧ RepL H ds xs ∧ RepL H es ys ∧ D.fineL es = true ∧ D.depthL es ≤ n ∧ xs.length = ys.length ∧
  ∀ b H', (b = true ↔ ds = es) → Ext H H' → Q (.bl b) H'
theorem all_same_of {n k : Nat} (T : Txt K mg a) (G : FnOk P w K mg base (CXU P w) k a.f_law_same a.d_law_same ["_law_found", "_law_due_here"] (sp_law_same n)) :
    FnOk P w K mg base (CXU P w) (k + 1) a.f_law_all_same a.d_law_all_same ["_law_found", "_law_due_here"] (sp_law_all_same n) := by
  refine T.F_law_all_same.okU sc_law_all_same (fun vs H Q E h => ?_) (fun cdv A outer s H vs Q E hr h => ?_)
  · obtain ⟨p, q, xs, ys, ds, es, rfl, _⟩ := h
    rfl
  · obtain ⟨p, q, xs, ys, ds, es, rfl, hp, hq', hd, he, hf, hn, hl, hq⟩ := h
    refine ⟨_, (pss_cons (ps_for PassesOwn.never rfl (pi_zip2 rfl T.n_zip (pa_cons (pv 0) (pa_cons (pv 1) pa_nil))) (pg_tup rfl (pgs_cons (pg_name (i := 2) sc_law_all_same.nd rfl (by first | exact Or.inl rfl | exact Or.inr rfl)) (pgs_cons (pg_name (i := 3) sc_law_all_same.nd rfl (by first | exact Or.inl rfl | exact Or.inr rfl)) pgs_nil))) (pss_one (ps_if (pt_not (ptT (pe_call (G) hr (by rfl) T.m_law_same T.F_law_same.kp T.b_law_same .nil passU (pa_cons (pv 2) (pa_cons (pv 3) pa_nil))) (fun _ => rfl))) (pss_one (ps_ret pe_bl)) pss_nil)))
      (pss_one (ps_ret pe_bl))), ?_⟩
    have l1 := hd.length
    have l2 := he.length
    repeat walk_at "vs"
    refine ⟨p, q, xs, ys, false, false, rfl, SqL.of hp, SqL.of hq', for_zip2 (fun i σ H2 => (∃ u v, σ = [some (.ref p), some (.ref q), u, v]) ∧ Ext H H2 ∧ ds.take i = es.take i) hl ⟨⟨none, none, rfl⟩, Ext.rfl', rfl⟩ (fun i σ H2 _ ⟨_, e, _⟩ => ⟨SqL.of (e _ _ hp), SqL.of (e _ _ hq')⟩) ?_ ?_⟩
    · rintro i x y σ H2 r hx hy ⟨⟨u, v, rfl⟩, e, ht⟩ hr0
      obtain ⟨d, d1, d2⟩ := hd.get hx
      obtain ⟨f, f1, f2⟩ := he.get hy
      refine r_gtup upd_same rfl ?_
      repeat walk_at "vs"
      have e2 : Ext H (upd H2 r (.tup [x, y])) := e.tr (ext_upd hr0)
      refine ⟨x, y, d, f, rfl, d2.mono e2, f2.mono e2, fineL_of hf f1, depthL_le hn f1, fun b H3 hb e3 => ?_⟩
      repeat walk_at "vs"
      cases b with
      | true =>
        repeat walk_at "vs"
        refine ⟨⟨_, _, rfl⟩, e2.tr e3, ?_⟩
        rw [List.take_add_one, List.take_add_one, d1, f1, ht, hb.mp rfl]
      | false =>
        repeat walk_at "vs"
        refine hq false H3 ⟨fun z => Bool.noConfusion z, fun z => ?_⟩ (e2.tr e3)
        subst z
        rw [d1] at f1
        cases f1
        exact hb.mpr rfl
    · rintro σ H2 ⟨⟨u, v, rfl⟩, e, ht⟩
      repeat walk_at "vs"
      refine hq true H2 ⟨fun _ => ?_, fun _ => rfl⟩ e
      rw [List.take_of_length_le (by omega), List.take_of_length_le (by omega)] at ht
      exact ht
theorem same_of {n k : Nat} {spA : Sp} (T : Txt K mg a) (hA : ∀ vs H Q E, (∃ m, n = m + 1 ∧ sp_law_all_same m vs H Q E) → spA vs H Q E) (GA : FnOk P w K mg base (CXU P w) (k + 1) a.f_law_all_same a.d_law_all_same ["_law_found", "_law_due_here"] spA) :
    FnOk P w K mg base (CXU P w) (k + 2) a.f_law_same a.d_law_same ["_law_found", "_law_due_here"] (sp_law_same n) := by
  refine T.F_law_same.okU sc_law_same (fun vs H Q E h => ?_) (fun cdv A outer s H vs Q E hr h => ?_)
  · obtain ⟨x, y, d1, d2, rfl, _⟩ := h
    rfl
  · obtain ⟨x, y, d1, d2, rfl, h1, h2, hf, hn, hq⟩ := h
    refine ⟨_, (pss_cons (ps_if (ptT (pe_callB cIsin (by rfl) T.n_isinstance PyProof.Rows.boot_isinstance (pa_cons (pv 1) (pa_cons (pe_bltn (v := V.ty "tuple") (by rfl) T.n_tuple PyProof.Rows.boot_tuple rfl) pa_nil))) (fun _ => rfl)) (pss_one (ps_ret (pe_and (pe_callB cIsin (by rfl) T.n_isinstance PyProof.Rows.boot_isinstance (pa_cons (pv 0) (pa_cons (pe_bltn (v := V.ty "tuple") (by rfl) T.n_tuple PyProof.Rows.boot_tuple rfl) pa_nil))) (pe_and (pe_cmpR (oEq hr) (pe_callB cLenW (by rfl) T.n_len PySem.boot_len (pa_cons (pv 0) pa_nil)) (pe_callB cLenW (by rfl) T.n_len PySem.boot_len (pa_cons (pv 1) pa_nil)) (nomark _)) (pe_one (pe_call (GA) (hr.mono (by omega)) (by rfl) T.m_law_all_same T.F_law_all_same.kp T.b_law_all_same .nil passU (pa_cons (pe_callTy cList (by rfl) T.n_list PyProof.Rows.boot_list (pa_cons (pv 0) pa_nil)) (pa_cons (pe_callTy cList (by rfl) T.n_list PyProof.Rows.boot_list (pa_cons (pv 1) pa_nil)) pa_nil)))))))) pss_nil)
      (pss_cons (ps_if (ptT (pe_callB cIsin (by rfl) T.n_isinstance PyProof.Rows.boot_isinstance (pa_cons (pv 1) (pa_cons (pe_bltn (v := V.ty "list") (by rfl) T.n_list PyProof.Rows.boot_list rfl) pa_nil))) (fun _ => rfl)) (pss_one (ps_ret (pe_and (pe_callB cIsin (by rfl) T.n_isinstance PyProof.Rows.boot_isinstance (pa_cons (pv 0) (pa_cons (pe_bltn (v := V.ty "list") (by rfl) T.n_list PyProof.Rows.boot_list rfl) pa_nil))) (pe_and (pe_cmpR (oEq hr) (pe_callB cLenW (by rfl) T.n_len PySem.boot_len (pa_cons (pv 0) pa_nil)) (pe_callB cLenW (by rfl) T.n_len PySem.boot_len (pa_cons (pv 1) pa_nil)) (nomark _)) (pe_one (pe_call (GA) (hr.mono (by omega)) (by rfl) T.m_law_all_same T.F_law_all_same.kp T.b_law_all_same .nil passU (pa_cons (pv 0) (pa_cons (pv 1) pa_nil)))))))) pss_nil)
      (pss_cons (ps_if (ptT (pe_callB cIsin (by rfl) T.n_isinstance PyProof.Rows.boot_isinstance (pa_cons (pv 1) (pa_cons (pe_bltn (v := V.ty "bool") (by rfl) T.n_bool PyProof.Rows.boot_bool rfl) pa_nil))) (fun _ => rfl)) (pss_one (ps_ret (pe_and (pe_callB cIsin (by rfl) T.n_isinstance PyProof.Rows.boot_isinstance (pa_cons (pv 0) (pa_cons (pe_bltn (v := V.ty "bool") (by rfl) T.n_bool PyProof.Rows.boot_bool rfl) pa_nil))) (pe_one (pe_cmpR (oEq hr) (pv 0) (pv 1) (nomark _)))))) pss_nil)
      (pss_cons (ps_if (pt_cmpR oIsN (pv 1) pe_non (nomark _)) (pss_one (ps_ret (pe_cmpR oIsN (pv 0) pe_non (nomark _)))) pss_nil)
      (pss_cons (ps_if (ptT (pe_callB cIsin (by rfl) T.n_isinstance PyProof.Rows.boot_isinstance (pa_cons (pv 1) (pa_cons (pe_bltn (v := V.ty "str") (by rfl) T.n_str PyProof.Rows.boot_str rfl) pa_nil))) (fun _ => rfl)) (pss_one (ps_ret (pe_and (pe_callB cIsin (by rfl) T.n_isinstance PyProof.Rows.boot_isinstance (pa_cons (pv 0) (pa_cons (pe_bltn (v := V.ty "str") (by rfl) T.n_str PyProof.Rows.boot_str rfl) pa_nil))) (pe_one (pe_cmpR (oEq hr) (pv 0) (pv 1) (nomark _)))))) pss_nil)
      (pss_one (ps_ret (pe_and (pe_call (ok_law_whole T) (hr.mono (by omega)) (by rfl) T.m_law_whole T.F_law_whole.kp T.b_law_whole .nil passU (pa_cons (pv 0) pa_nil)) (pe_one (pe_cmpR (oEq hr) (pv 0) (pv 1) (nomark _))))))))))), ?_⟩
    have k1 := h1.kd
    have k2 := h2.kd
    have no : ∀ {B : Prop}, ¬ B → (false = true ↔ B) := fun nb => ⟨fun z => Bool.noConfusion z, fun z => (nb z).elim⟩
    repeat walk_at "vs"
    refine r_isT k2 ?_
    cases d2 with
    | tup es =>
      repeat walk_at "vs"
      refine r_isT k1 ?_
      cases d1 with
      | tup ds =>
        obtain ⟨p, xs, rfl, hp, hd⟩ := h1
        obtain ⟨q, ys, rfl, hq', he⟩ := h2
        repeat walk_at "vs"
        refine r_lenWT hp ?_
        repeat walk_at "vs"
        refine r_lenWT hq' ?_
        repeat walk_at "vs"
        refine iteD (fun hl => ?_) (fun hl => ?_)
        · repeat walk_at "vs"
          refine r_listT hp fun p2 H2 n2 hp2 e2 => ?_
          repeat walk_at "vs"
          refine r_listT (e2 _ _ hq') fun q2 H3 n3 hq3 e3 => ?_
          repeat walk_at "vs"
          have hn' : D.depthL es + 1 ≤ n := hn
          refine hA _ _ _ _ ⟨n - 1, by omega, p2, q2, xs, ys, ds, es, rfl, e3 _ _ hp2, hq3, hd.mono (e2.tr e3), he.mono (e2.tr e3), hf, by omega, by omega, fun b H4 hb e4 => ?_⟩
          exact hq b H4 (hb.trans ⟨fun z => by rw [z], fun z => by cases z; rfl⟩) ((e2.tr e3).tr e4)
        · repeat walk_at "vs"
          refine hq false H (no fun z => hl ?_) Ext.rfl'
          cases z
          have l1 := hd.length
          have l2 := he.length
          omega
      | _ =>
        repeat walk_at "vs"
        exact hq false H (no fun z => by cases z) Ext.rfl'
    | lst es =>
      repeat walk_at "vs"
      refine r_isL k2 ?_
      repeat walk_at "vs"
      refine r_isL k1 ?_
      cases d1 with
      | lst ds =>
        obtain ⟨p, xs, rfl, hp, hd⟩ := h1
        obtain ⟨q, ys, rfl, hq', he⟩ := h2
        repeat walk_at "vs"
        refine r_lenWL hp ?_
        repeat walk_at "vs"
        refine r_lenWL hq' ?_
        repeat walk_at "vs"
        refine iteD (fun hl => ?_) (fun hl => ?_)
        · repeat walk_at "vs"
          have hn' : D.depthL es + 1 ≤ n := hn
          refine hA _ _ _ _ ⟨n - 1, by omega, p, q, xs, ys, ds, es, rfl, hp, hq', hd, he, hf, by omega, by omega, fun b H4 hb e4 => ?_⟩
          exact hq b H4 (hb.trans ⟨fun z => by rw [z], fun z => by cases z; rfl⟩) e4
        · repeat walk_at "vs"
          refine hq false H (no fun z => hl ?_) Ext.rfl'
          cases z
          have l1 := hd.length
          have l2 := he.length
          omega
      | _ =>
        repeat walk_at "vs"
        exact hq false H (no fun z => by cases z) Ext.rfl'
    | bl c =>
      cases (show y = .bl c from h2)
      repeat walk_at "vs"
      refine r_isL k2 ?_
      repeat walk_at "vs"
      refine r_isB k2 ?_
      repeat walk_at "vs"
      refine r_isB k1 ?_
      cases d1 with
      | bl c1 =>
        cases (show x = .bl c1 from h1)
        repeat walk_at "vs"
        refine r_eqUB (hq _ H ?_ Ext.rfl')
        rw [decide_eq_true_iff]
        exact ⟨fun z => by rw [z], fun z => by cases z; rfl⟩
      | _ =>
        repeat walk_at "vs"
        exact hq false H (no fun z => by cases z) Ext.rfl'
    | non =>
      cases (show y = .non from h2)
      repeat walk_at "vs"
      refine r_isL k2 ?_
      repeat walk_at "vs"
      refine r_isB k2 ?_
      repeat walk_at "vs"
      refine hq _ H ?_ Ext.rfl'
      rw [decide_eq_true_iff]
      cases d1 with
      | non => exact ⟨fun _ => rfl, fun _ => h1⟩
      | bl c1 => cases (show x = .bl c1 from h1); exact ⟨fun z => (by cases z), fun z => (by cases z)⟩
      | int c1 => cases (show x = .int c1 from h1); exact ⟨fun z => (by cases z), fun z => (by cases z)⟩
      | str c1 => cases (show x = .str c1 from h1); exact ⟨fun z => (by cases z), fun z => (by cases z)⟩
      | tup c1 => obtain ⟨_, _, rfl, _⟩ := h1; exact ⟨fun z => (by cases z), fun z => (by cases z)⟩
      | lst c1 => obtain ⟨_, _, rfl, _⟩ := h1; exact ⟨fun z => (by cases z), fun z => (by cases z)⟩
      | dct => obtain ⟨_, _, rfl, _⟩ := h1; exact ⟨fun z => (by cases z), fun z => (by cases z)⟩
    | str c =>
      cases (show y = .str c from h2)
      repeat walk_at "vs"
      refine r_isL k2 ?_
      repeat walk_at "vs"
      refine r_isB k2 ?_
      repeat walk_at "vs"
      refine r_isS k2 ?_
      repeat walk_at "vs"
      refine r_isS k1 ?_
      cases d1 with
      | str c1 =>
        cases (show x = .str c1 from h1)
        repeat walk_at "vs"
        refine r_eqUS (hq _ H ?_ Ext.rfl')
        rw [decide_eq_true_iff]
        exact ⟨fun z => by rw [z], fun z => by cases z; rfl⟩
      | _ =>
        repeat walk_at "vs"
        exact hq false H (no fun z => by cases z) Ext.rfl'
    | int c =>
      cases (show y = .int c from h2)
      repeat walk_at "vs"
      refine r_isL k2 ?_
      repeat walk_at "vs"
      refine r_isB k2 ?_
      repeat walk_at "vs"
      refine r_isS k2 ?_
      repeat walk_at "vs"
      refine ⟨x, _, rfl, k1, ?_⟩
      cases d1 with
      | int c1 =>
        cases (show x = .int c1 from h1)
        repeat walk_at "vs"
        refine hq _ H ?_ Ext.rfl'
        rw [decide_eq_true_iff]
        exact ⟨fun z => by rw [z], fun z => by cases z; rfl⟩
      | _ =>
        repeat walk_at "vs"
        exact hq false H (no fun z => by cases z) Ext.rfl'
    | dct => cases hf
theorem ok_same_n (T : Txt K mg a) : ∀ n : Nat, FnOk P w K mg base (CXU P w) (2 * n + 2) a.f_law_same a.d_law_same ["_law_found", "_law_due_here"] (sp_law_same n)
  | 0 => same_of (k := 0) (spA := fun _ _ _ _ => False) T (fun _ _ _ _ ⟨m, e, _⟩ => by omega) FnOk.no
  | n + 1 => by
    have G := all_same_of T (ok_same_n T n)
    have z := same_of (n := n + 1) (k := 2 * n + 2) (spA := sp_law_all_same n) T (fun _ _ _ _ ⟨m, e, h⟩ => by cases e; exact h) G
    exact z
theorem ok_law_same (T : Txt K mg a) : FnOk P w K mg base (CXU P w) 12 a.f_law_same a.d_law_same ["_law_found", "_law_due_here"] (sp_law_same 5) := ok_same_n T 5
theorem same_yes {x y : V} {d : D} {H : Hp} {Q : VK} {E : XK} (h1 : Rep H d x) (h2 : Rep H d y) (hf : d.fine = true) (hd : Nat.ble d.depth 5 = true) (hq : ∀ H', Ext H H' → Q (.bl true) H') : sp_law_same 5 [x, y] H Q E :=
  ⟨x, y, d, d, rfl, h1, h2, hf, Nat.le_of_ble_eq_true hd, fun b H' hb e => by rw [hb.mpr rfl]; exact hq H' e⟩
theorem cutI_to {os : List Int} {i : Nat} (h : i ≤ os.length) : cutV (os.map V.int) none (some (i : Int)) = (os.take i).map V.int := by
  unfold cutV
  rw [HT.sIx_none, HT.sIx_nat, List.length_map, Nat.min_eq_left h, List.drop_zero, Nat.sub_zero, List.map_take]
theorem cutI_fr {os : List Int} {i : Nat} (h : i ≤ os.length) : cutV (os.map V.int) (some (i : Int)) none = (os.drop i).map V.int := by
  unfold cutV
  rw [HT.sIx_nat, HT.sIx_none, List.length_map, Nat.min_eq_left h, ← List.map_drop, List.take_of_length_le (by rw [List.length_map, List.length_drop]; exact Nat.le_refl _)]
theorem set_out {l : List Int} {k : Nat} {w : Int} (h : k < l.length) : (l.take k ++ l.drop (k + 1) ++ [w]).Perm (l.set k w) := by
  rw [← set_tk h, List.append_assoc, List.append_assoc]
  exact List.Perm.append_left _ List.perm_append_comm
def sp_law_put : Sp := fun vs H Q _ => ∃ (b f : Addr) (os fs : List Int) (s R : Int) (v : V), vs = [.int R, .ref b, .int s, .ref f] ∧ H b = some (.tup (os.map V.int)) ∧ H f = some (.tup (fs.map V.int)) ∧ os.length ≤ 50 ∧ PrV R os s fs v ∧ ∀ H', Ext H H' → Q v H'
theorem ok_law_put (T : Txt K mg a) : FnOk P w K mg base (CXU P w) 1 a.f_law_put a.d_law_put ["_law_room", "_law_before", "_law_wish", "_law_after_here"] (sp_law_put) := by
  refine T.F_law_put.okU sc_law_put (fun vs H Q E h => ?_) (fun cdv A outer s H vs Q E hr h => ?_)
  · obtain ⟨b, f, os, fs, s, R, v, rfl, hb, hf, hl, hg, hq⟩ := h
    rfl
  · obtain ⟨b, f, os, fs, s, R, v, rfl, hb, hf, hl, hg, hq⟩ := h
    refine ⟨_, (pss_cons (ps_if (pt_cmpR (oEq hr) (pv 3) (pe_callTy cTuple (by rfl) T.n_tuple PyProof.Rows.boot_tuple (pa_cons (pe_callB cSortW (by rfl) T.n_sorted PyProof.Rows.boot_sorted (pa_cons (pe_op oAddW (pv 1) (pe_tup (pa_cons (pv 2) pa_nil))) pa_nil)) pa_nil)) (nomark _)) (pss_one (ps_ret pe_int)) pss_nil)
      (pss_cons (ps_for PassesOwn.never rfl (pi_range1 rfl T.n_range (pa_cons (pe_callB cLenW (by rfl) T.n_len PySem.boot_len (pa_cons (pv 1) pa_nil)) pa_nil)) (pg_name (i := 4) sc_law_put.nd rfl (by first | exact Or.inl rfl | exact Or.inr rfl)) (pss_cons (ps_set (i := 5) sc_law_put.nd rfl (by first | exact Or.inl rfl | exact Or.inr rfl) (pe_op oAddW (pe_ix oIx (pv 1) (pv 4) (fun _ _ => rfl)) (pv 2)))
      (pss_one (ps_if (PW.pt (pw_and (pt_cmpR oLeW (pv 5) (pv 0) (nomark _)) (pw_and1 (pt_cmpR (oEq hr) (pv 3) (pe_callTy cTuple (by rfl) T.n_tuple PyProof.Rows.boot_tuple (pa_cons (pe_callB cSortW (by rfl) T.n_sorted PyProof.Rows.boot_sorted (pa_cons (pe_op oAddW (pe_op oAddW (pe_slice oSlV (pv 1) po_none (po_some (pv 4))) (pe_slice oSlV (pv 1) (po_some (pe_op oAddW (pv 4) pe_int)) po_none)) (pe_tup (pa_cons (pv 5) pa_nil))) pa_nil)) pa_nil)) (nomark _))))) (pss_one (ps_ret pe_int)) pss_nil))))
      (pss_one (ps_ret pe_non)))), ?_⟩
    repeat walk_at "vs"
    intro p1 H1 n1 q1 e1
    repeat walk_at "vs"
    refine r_addWT (e1 _ _ hb) q1 (by simp; omega) fun p2 H2 q2 e2 => ?_
    rw [show os.map V.int ++ [V.int s] = (os ++ [s]).map V.int by simp] at q2
    repeat walk_at "vs"
    refine r_srtT q2 (by simp; omega) fun l3 ns' H3 n3 hp3 hs3 q3 e3 => ?_
    repeat walk_at "vs"
    refine r_tupleL q3 fun l4 H4 n4 q4 e4 => ?_
    have x4 := ((e1.tr e2).tr e3).tr e4
    have hf4 := x4 _ _ hf
    have hb4 := x4 _ _ hb
    repeat walk_at "vs"
    refine r_eqTI hf4 q4 ?_
    by_cases c : fs = ns'
    · subst c
      rw [decide_eq_true rfl]
      repeat walk_at "vs"
      rw [← hg.one ⟨hs3, .inl ⟨rfl, hp3⟩⟩]
      exact hq H4 x4
    rw [decide_eq_false c]
    repeat walk_at "vs"
    refine r_lenWT hb4 ?_
    rw [List.length_map]
    repeat walk_at "vs"
    refine ⟨_, rfl, by omega, by omega, for_range (fun i σ H5 => ∃ (u1 u2 : Option V), σ = [some (.int R), some (.ref b), some (.int s), some (.ref f), u1, u2] ∧ Ext H H5 ∧ ∀ k, k < i → os.getD k 0 + s ≤ R → fs.Pairwise (· ≤ ·) → ¬ fs.Perm (os.set k (os.getD k 0 + s))) ⟨none, none, rfl, x4, fun k hk => by omega⟩ ?_ ?_⟩
    · rintro kk σ H5 hi ⟨u1, u2, rfl, x5, hno⟩
      have hkk : kk < os.length := by omega
      have hb5 := x5 _ _ hb
      rw [show ((0 : Int) + (kk : Nat)) = (kk : Nat) by omega]
      have i1 := atI_ints (ns := os) (k := (kk : Nat)) (by omega) (by omega)
      rw [Int.toNat_natCast] at i1
      repeat walk_at "vs"
      refine r_ixT hb5 i1 ?_
      repeat walk_at "vs"
      refine iteD (fun cR => ?_) (fun cR => ?_)
      · repeat walk_at "vs"
        refine r_slA hb5 fun l6 H6 q6 e6 => ?_
        rw [cutI_to (by omega)] at q6
        have hb6 := e6 _ _ hb5
        repeat walk_at "vs"
        refine r_slA hb6 fun l7 H7 q7 e7 => ?_
        rw [show (some ((kk : Int) + 1)) = some ((kk + 1 : Nat) : Int) from by rw [Int.natCast_add]; rfl, cutI_fr (by omega)] at q7
        repeat walk_at "vs"
        refine r_addWT (e7 _ _ q6) q7 (by simp; omega) fun l8 H8 q8 e8 => ?_
        repeat walk_at "vs"
        intro l9 H9 n9 q9 e9
        repeat walk_at "vs"
        refine r_addWT (e9 _ _ q8) q9 (by simp; omega) fun l10 H10 q10 e10 => ?_
        rw [show (os.take kk).map V.int ++ (os.drop (kk + 1)).map V.int ++ [V.int (os.getD kk 0 + s)] = (os.take kk ++ os.drop (kk + 1) ++ [os.getD kk 0 + s]).map V.int by simp] at q10
        repeat walk_at "vs"
        refine r_srtT q10 (by simp; omega) fun l11 ms H11 n11 p11 s11 q11 e11 => ?_
        repeat walk_at "vs"
        refine r_tupleL q11 fun l12 H12 n12 q12 e12 => ?_
        have x12 := e6.tr (e7.tr (e8.tr (e9.tr (e10.tr (e11.tr e12)))))
        have pm := p11.trans (set_out hkk)
        repeat walk_at "vs"
        refine r_eqTI ((x5.tr x12) _ _ hf) q12 ?_
        by_cases c2 : fs = ms
        · subst c2
          rw [decide_eq_true rfl]
          repeat walk_at "vs"
          rw [← hg.nought ⟨s11, .inr ⟨rfl, kk, hkk, cR, pm⟩⟩]
          exact hq H12 (x5.tr x12)
        · rw [decide_eq_false c2]
          repeat walk_at "vs"
          refine ⟨_, _, rfl, x5.tr x12, fun k hk hR sf pf => ?_⟩
          by_cases z : k = kk
          · subst z
            exact c2 (sorted_eq (pf.trans pm.symm) sf s11)
          · exact hno k (by omega) hR sf pf
      · repeat walk_at "vs"
        refine ⟨_, _, rfl, x5, fun k hk hR sf pf => ?_⟩
        by_cases z : k = kk
        · subst z
          exact cR hR
        · exact hno k (by omega) hR sf pf
    · rintro σ H5 ⟨u1, u2, rfl, x5, hno⟩
      rw [Int.toNat_natCast] at hno
      repeat walk_at "vs"
      rw [← hg.no fun pr z => by
        rcases z.2 with ⟨_, z2⟩ | ⟨_, k, hk, hR, z2⟩
        · exact c (sorted_eq (z2.trans hp3.symm) z.1 hs3)
        · exact hno k hk hR z.1 z2]
      exact hq H5 x5
def sp_law_turned : Sp := fun vs H Q _ => ∃ (p q : Addr) (ss qs : List Str) (w : Str), vs = [.ref p, .str w, .ref q] ∧ H p = some (.tup (ss.map V.str)) ∧ H q = some (.tup (qs.map V.str)) ∧ ss.length ≤ 60 ∧ qs.length ≤ 60 ∧ (∀ x ∈ ss, x ∈ qs) ∧ w ∈ qs ∧ ∀ H', Ext H H' → Q (.int (trn ss qs + (qs.idxOf w : Nat) + 1)) H'
theorem takeS {ss : List Str} {i : Nat} (h : i < ss.length) : ss.take (i + 1) = ss.take i ++ [ss.getD i ⟨#[]⟩] := by rw [List.take_add_one, List.getD_eq_getElem?_getD, List.getElem?_eq_getElem h]; rfl
theorem atI_nat {ss : List Str} {i : Nat} (h : i < ss.length) : atI (ss.map V.str) (i : Nat) = some (.str (ss.getD i ⟨#[]⟩)) := by
  have := atI_strs (ss := ss) (k := (i : Nat)) (by omega) (by omega)
  rwa [Int.toNat_natCast] at this
theorem ok_law_turned (T : Txt K mg a) : FnOk P w K mg base (CXU P w) 1 a.f_law_turned a.d_law_turned ["_law_before", "_law_wish", "_law_after_here"] (sp_law_turned) := by
  refine T.F_law_turned.okU sc_law_turned (fun vs H Q E h => ?_) (fun cdv A outer s H vs Q E hr h => ?_)
  · obtain ⟨p, q, ss, qs, w, rfl, hp, hq', hl, hl2, hs, hw, hq⟩ := h
    rfl
  · obtain ⟨p, q, ss, qs, w, rfl, hp, hq', hl, hl2, hs, hw, hq⟩ := h
    have zc_Bags := T.cl_Bags
    have zn_Bags_room := T.na_Bags_room
    have zc_Hire := T.cl_Hire
    have zn_Hire_whole := T.na_Hire_whole
    have zc_Line := T.cl_Line
    have zn_Line_many := T.na_Line_many
    have zc_Shelf := T.cl_Shelf
    have zn_Shelf_things := T.na_Shelf_things
    have zc_Store := T.cl_Store
    have zn_Store_many := T.na_Store_many
    have zc_Ways := T.cl_Ways
    have zn_Ways_many := T.na_Ways_many
    have zn_Ways_toll := T.na_Ways_toll
    refine ⟨_, (pss_cons (ps_set (i := 3) sc_law_turned.nd rfl (by first | exact Or.inl rfl | exact Or.inr rfl) (pe_op oAddW pe_int (pe_bm PySem.F.plainAttrs_list PySem.F.slot_list_index PySem.F.type_list_index mt_lindexS (pe_callTy cList (by rfl) T.n_list PyProof.Rows.boot_list (pa_cons (pv 2) pa_nil)) (pa_cons (pv 1) pa_nil))))
      (pss_cons (ps_for PassesOwn.never rfl (pi_range1 rfl T.n_range (pa_cons (pe_callB cLenW (by rfl) T.n_len PySem.boot_len (pa_cons (pv 0) pa_nil)) pa_nil)) (pg_name (i := 4) sc_law_turned.nd rfl (by first | exact Or.inl rfl | exact Or.inr rfl)) (pss_one (ps_for PassesOwn.never rfl (pi_range1 rfl T.n_range (pa_cons (pv 4) pa_nil)) (pg_name (i := 5) sc_law_turned.nd rfl (by first | exact Or.inl rfl | exact Or.inr rfl)) (pss_one (ps_if (pt_cmpR op_gt (pe_bm PySem.F.plainAttrs_list PySem.F.slot_list_index PySem.F.type_list_index mt_lindexS (pe_callTy cList (by rfl) T.n_list PyProof.Rows.boot_list (pa_cons (pv 2) pa_nil)) (pa_cons (pe_ix oIx (pv 0) (pv 5) (fun _ _ => rfl)) pa_nil)) (pe_bm PySem.F.plainAttrs_list PySem.F.slot_list_index PySem.F.type_list_index mt_lindexS (pe_callTy cList (by rfl) T.n_list PyProof.Rows.boot_list (pa_cons (pv 2) pa_nil)) (pa_cons (pe_ix oIx (pv 0) (pv 4) (fun _ _ => rfl)) pa_nil)) (nomark _)) (pss_one (ps_set (i := 3) sc_law_turned.nd rfl (by first | exact Or.inl rfl | exact Or.inr rfl) (pe_op oAddW (pv 3) pe_int))) pss_nil)))))
      (pss_one (ps_ret (pv 3))))), ?_⟩
    repeat walk_at "vs"
    refine r_listT hq' fun l1 H1 n1 q1 e1 => ?_
    repeat walk_at "vs"
    refine r_lindexS q1 hw (by omega) ?_
    repeat walk_at "vs"
    refine r_lenWT (e1 _ _ hp) ?_
    rw [List.length_map]
    repeat walk_at "vs"
    refine ⟨_, rfl, by omega, by omega, for_range (fun k σ H3 => ∃ (mv : Int) (u v : Option V), σ = [some (.ref p), some (.str w), some (.ref q), some (.int mv), u, v] ∧ Ext H H3 ∧ mv = 1 + (qs.idxOf w : Nat) + trn (ss.take k) qs) ⟨_, none, none, rfl, e1, by rw [List.take_zero, trn_nil, Int.add_zero]⟩ ?_ ?_⟩
    · rintro k σ H3 hk ⟨mv, u, v, rfl, x3, emv⟩
      have hk' : k < ss.length := by omega
      rw [show ((0 : Int) + (k : Nat)) = (k : Nat) by omega]
      repeat walk_at "vs"
      refine ⟨_, rfl, by omega, by omega, for_range (fun j σ H4 => ∃ (mw : Int) (v : Option V), σ = [some (.ref p), some (.str w), some (.ref q), some (.int mw), some (.int (k : Nat)), v] ∧ Ext H H4 ∧ mw = mv + (((ss.take j).filter fun t => decide (qs.idxOf (ss.getD k ⟨#[]⟩) < qs.idxOf t)).length : Nat)) ⟨_, _, rfl, x3, by simp⟩ ?_ ?_⟩
      · rintro j σ H4 hj ⟨mw, v, rfl, x4, emw⟩
        have hj' : j < ss.length := by omega
        rw [show ((0 : Int) + (j : Nat)) = (j : Nat) by omega]
        have hp4 := x4 _ _ hp
        repeat walk_at "vs"
        refine r_listT (x4 _ _ hq') fun l5 H5 n5 q5 e5 => ?_
        repeat walk_at "vs"
        refine r_ixT (e5 _ _ hp4) (atI_nat hj') ?_
        repeat walk_at "vs"
        refine r_lindexS q5 (hs _ (getD_in hj')) (by omega) ?_
        repeat walk_at "vs"
        refine r_listT ((x4.tr e5) _ _ hq') fun l6 H6 n6 q6 e6 => ?_
        repeat walk_at "vs"
        refine r_ixT ((e5.tr e6) _ _ hp4) (atI_nat hk') ?_
        repeat walk_at "vs"
        refine r_lindexS q6 (hs _ (getD_in hk')) (by omega) ?_
        have x6 := x4.tr (e5.tr e6)
        repeat walk_at "vs"
        refine iteD (fun c => ?_) (fun c => ?_)
        · repeat walk_at "vs"
          refine ⟨_, _, rfl, x6, ?_⟩
          rw [takeS hj', List.filter_append, List.length_append, List.filter_cons, List.filter_nil, if_pos (decide_eq_true (by omega)), List.length_singleton, emw]
          omega
        · repeat walk_at "vs"
          refine ⟨_, _, rfl, x6, ?_⟩
          rw [takeS hj', List.filter_append, List.length_append, List.filter_cons, List.filter_nil, if_neg (fun z => c (by have := of_decide_eq_true z; omega)), List.length_nil, emw]
          omega
      · rintro σ H4 ⟨mw, v, rfl, x4, emw⟩
        rw [Int.toNat_natCast] at emw
        repeat walk_at "vs"
        refine ⟨_, _, _, rfl, x4, ?_⟩
        rw [takeS hk', trn_snoc, emw, emv]
        omega
    · rintro σ H3 ⟨mv, u, v, rfl, x3, emv⟩
      rw [Int.toNat_natCast, List.take_length] at emv
      repeat walk_at "vs"
      rw [show mv = trn ss qs + (qs.idxOf w : Nat) + 1 by omega]
      exact hq H3 x3
theorem abs_mm (x y : Int) : max x y - min x y = ((x - y).natAbs : Int) := by omega
def sp_law_price : Sp := fun us H Q _ => ∃ (gl : Addr) (g : Gm) (st : StG) (ws : List WsG) (b a : StG) (w : WsG) (bv wv av x : V), us = [.ref gl, bv, wv, av] ∧ GameV H gl g st ws ∧ g.wf ∧ b.at_ H bv ∧ w.at_ H wv ∧ a.at_ H av ∧ g.ok 40 b ∧ g.okW w ∧ g.ok 40 a ∧ g.pp b w a x ∧ ∀ H', Ext H H' → Q x H'
theorem ok_law_price (T : Txt K mg a) : FnOk P w K mg base (CXU P w) 2 a.f_law_price a.d_law_price ["_law_game_here", "_law_before", "_law_wish", "_law_after_here"] (sp_law_price) := by
  refine T.F_law_price.okU sc_law_price (fun vs H Q E h => ?_) (fun cdv A outer s H vs Q E hr h => ?_)
  · obtain ⟨gl, g, st, ws, b, aa, w, bv, wv, av, x, rfl, ⟨gv, sv, wl, wvs, hg, hpv, _⟩, hwf, hb, hw, ha, okb, okw, oka, hpp, hq⟩ := h
    rfl
  · obtain ⟨gl, g, st, ws, b, aa, w, bv, wv, av, x, rfl, ⟨gv, sv, wl, wvs, hg, hpv, _⟩, hwf, hb, hw, ha, okb, okw, oka, hpp, hq⟩ := h
    refine ⟨_, (pss_cons (ps_if (pt_cmpR (oEq hr) (pe_ix oIx (pv 0) pe_int (fun _ _ => rfl)) pe_int (nomark _)) (pss_cons (ps_if (pt_cmpR (oEq hr) (pv 1) pe_int (nomark _)) (pss_one (ps_ret (pe_ix oIx (pe_lst (pa_cons pe_non (pa_cons pe_int pa_nil))) (pv 3) (fun _ _ => rfl)))) pss_nil)
      (pss_one (ps_ret (pe_ix oIx (pe_lst (pa_cons (pv 2) (pa_cons (pe_ix oIx (pv 0) pe_int (fun _ _ => rfl)) pa_nil))) (pv 3) (fun _ _ => rfl))))) pss_nil)
      (pss_cons (ps_if (pt_cmpR (oEq hr) (pe_ix oIx (pv 0) pe_int (fun _ _ => rfl)) pe_int (nomark _)) (pss_one (ps_ret (pe_call (ok_law_turned T) (hr.mono (by decide)) (by rfl) T.m_law_turned T.F_law_turned.kp T.b_law_turned .nil passU (pa_cons (pv 1) (pa_cons (pv 2) (pa_cons (pv 3) pa_nil)))))) pss_nil)
      (pss_cons (ps_if (pt_cmpR (oEq hr) (pe_ix oIx (pv 0) pe_int (fun _ _ => rfl)) pe_int (nomark _)) (pss_one (ps_ret (pe_op oAddW (pe_ix oIx (pv 2) (pv 3) (fun _ _ => rfl)) (pe_op oMulW (pe_ix oIx (pe_ix oIx (pv 0) pe_int (fun _ _ => rfl)) pe_int (fun _ _ => rfl)) (pe_callTy cInt1 (by rfl) T.n_int PyProof.Rows.boot_int (pa_cons (pe_cmpR op_ne (pv 1) (pv 3) (nomark _)) pa_nil)))))) pss_nil)
      (pss_cons (ps_if (pt_cmpR (oEq hr) (pe_ix oIx (pv 0) pe_int (fun _ _ => rfl)) pe_int (nomark _)) (pss_one (ps_ret (pe_call (ok_law_put T) (hr.mono (by decide)) (by rfl) T.m_law_put T.F_law_put.kp T.b_law_put .nil passU (pa_cons (pe_ix oIx (pv 0) pe_int (fun _ _ => rfl)) (pa_cons (pv 1) (pa_cons (pv 2) (pa_cons (pv 3) pa_nil))))))) pss_nil)
      (pss_cons (ps_if (pt_cmpR oNotIn (pv 2) (pv 3) (by with_unfolding_all rfl)) (pss_one (ps_ret pe_non)) pss_nil)
      (pss_cons (ps_if (pt_cmpR (oEq hr) (pe_ix oIx (pv 0) pe_int (fun _ _ => rfl)) pe_int (nomark _)) (pss_one (ps_ret (pe_callB cLenW (by rfl) T.n_len PySem.boot_len (pa_cons (pe_comp (["_law_page"] : List Str) (["_law_before"] : List Str) [1] rfl ⟨rfl, by decide +kernel, by decide +kernel, by rfl, ⟨⟨rfl, by first | exact Or.inl rfl | exact Or.inr rfl, by first | exact Or.inl rfl | exact Or.inr rfl⟩, trivial⟩⟩ (pi_tup (pv 3)) (fun _ _ _ _ => ⟨(pg_name (i := 0) (by show ((["_law_page"] : List Str) ++ (["_law_before"] : List Str)).Nodup; decide +kernel) rfl (by first | exact Or.inl rfl | exact Or.inr rfl)), (show PTs _ [_] [_] from ⟨(pt_cmpR oNotIn (pv 0) (pv 1) (by with_unfolding_all rfl)), trivial⟩), (pv 0)⟩)) pa_nil)))) pss_nil)
      (pss_one (ps_ret (pe_callB (cSum rfl) (by rfl) T.n_sum PyProof.Rows.boot_sum (pa_cons (pe_comp (["_law_one", "_law_other"] : List Str) ([] : List Str) [] rfl ⟨rfl, by decide +kernel, by decide +kernel, by rfl, trivial⟩ (pi_zip2 rfl T.n_zip (pa_cons (pv 1) (pa_cons (pv 3) pa_nil))) (fun _ _ _ _ => ⟨(pg_tup rfl (pgs_cons (pg_name (i := 0) (by show ((["_law_one", "_law_other"] : List Str) ++ ([] : List Str)).Nodup; decide +kernel) rfl (by first | exact Or.inl rfl | exact Or.inr rfl)) (pgs_cons (pg_name (i := 1) (by show ((["_law_one", "_law_other"] : List Str) ++ ([] : List Str)).Nodup; decide +kernel) rfl (by first | exact Or.inl rfl | exact Or.inr rfl)) pgs_nil))), (show PTs _ [] [] from trivial), (pe_op op_sub (pe_callB (cMax2 rfl) (by rfl) T.n_max PyProof.Rows.boot_max (pa_cons (pv 0) (pa_cons (pv 1) pa_nil))) (pe_callB (cMin2 rfl) (by rfl) T.n_min PyProof.Rows.boot_min (pa_cons (pv 0) (pa_cons (pv 1) pa_nil))))⟩)) pa_nil)))))))))), ?_⟩
    cases g with
    | hire W =>
      have hg' : H gl = some (.lst [.int 0, gv, sv, .ref wl]) := hg
      obtain rfl : gv = .int W := hpv
      obtain ⟨z, rfl⟩ := okw
      obtain rfl : wv = .int z := hw
      repeat walk_at "vs"
      refine r_ixL hg' rfl ?_
      rcases okb with rfl | rfl
      · obtain rfl : bv = .int 0 := hb
        repeat walk_at "vs"
        refine r_ixL hg' rfl ?_
        repeat walk_at "vs"
        intro l1 H1 n1 q1 e1
        repeat walk_at "vs"
        rcases oka with rfl | rfl
        · obtain rfl : av = .int 0 := ha
          refine r_ixL q1 rfl ?_
          obtain rfl : x = .int z := hpp
          exact hq H1 e1
        · obtain rfl : av = .int 1 := ha
          refine r_ixL q1 rfl ?_
          obtain rfl : x = .int W := hpp
          exact hq H1 e1
      · obtain rfl : bv = .int 1 := hb
        repeat walk_at "vs"
        intro l1 H1 n1 q1 e1
        repeat walk_at "vs"
        rcases oka with rfl | rfl
        · obtain rfl : av = .int 0 := ha
          refine r_ixL q1 rfl ?_
          obtain rfl : x = .non := hpp
          exact hq H1 e1
        · obtain rfl : av = .int 1 := ha
          refine r_ixL q1 rfl ?_
          obtain rfl : x = .int 0 := hpp
          exact hq H1 e1
    | line m =>
      have hg' : H gl = some (.lst [.int 1, gv, sv, .ref wl]) := hg
      obtain ⟨z, rfl⟩ := okw
      obtain rfl : wv = .int z := hw
      obtain ⟨bs, rfl, lb⟩ := okb
      obtain ⟨as, rfl, la⟩ := oka
      obtain ⟨bp, rfl, hbp⟩ := hb
      obtain ⟨ap, rfl, hap⟩ := ha
      have hm3 := hwf.2
      have hpp' : x = if z ∈ as then .int (ways bs as) else .non := hpp
      repeat walk_at "vs"
      refine r_ixL hg' rfl ?_
      repeat walk_at "vs"
      refine r_ixL hg' rfl ?_
      repeat walk_at "vs"
      refine r_ixL hg' rfl ?_
      repeat walk_at "vs"
      refine r_ixL hg' rfl ?_
      repeat walk_at "vs"
      refine r_notinT hap rfl (flat_ints _) ?_
      rw [inV_ints]
      repeat walk_at "vs"
      refine iteN (fun h => ?_) (fun h => ?_)
      · rw [if_neg h] at hpp'
        subst hpp'
        repeat walk_at "vs"
        exact hq H Ext.rfl'
      · rw [if_pos h] at hpp'
        subst hpp'
        repeat walk_at "vs"
        refine r_ixL hg' rfl ?_
        repeat walk_at "vs"
        refine ⟨bp, ap, bs.map V.int, as.map V.int, true, true, rfl, SqT.of hbp, SqT.of hap, fun acc hn _ _ _ _ => comp_zip2 (c := true) (d := true) (SqT.of hbp) (SqT.of hap) (by simp [lb, la]) (by rw [List.length_map]; omega) hn
          (fun i ys _ => ys = ((List.zipWith (fun a b : Int => ((a - b).natAbs : Int)) bs as).take i).map V.int) (by simp) (fun _ _ _ _ _ h => h) (fun i ys H' _ h => by rw [h, List.length_map, List.length_take]; omega) ?_ ?_⟩
        · rintro i x z ys H2 H3 hx hz' e e3 rfl Y N hY hN
          obtain ⟨x, ex, rfl⟩ := get_int hx
          obtain ⟨z, ez, rfl⟩ := get_int hz'
          repeat walk_at "vs"
          refine hY _ _ e3 ?_
          rw [List.take_add_one, List.map_append, List.getElem?_zipWith, ex, ez, abs_mm]
          rfl
        · rintro ys H2 e ha rfl
          rw [List.take_of_length_le (by rw [List.length_zipWith, List.length_map]; omega)] at ha
          repeat walk_at "vs"
          exact r_sum ha (hq H2 e)
    | shelf ts =>
      have hg' : H gl = some (.lst [.int 2, gv, sv, .ref wl]) := hg
      obtain ⟨z, rfl, hz⟩ := okw
      obtain rfl : wv = .str z := hw
      obtain ⟨bs, rfl, pb⟩ := okb
      obtain ⟨as, rfl, pa⟩ := oka
      obtain ⟨bp, rfl, hbp⟩ := hb
      obtain ⟨ap, rfl, hap⟩ := ha
      have l4 := hwf.2.1
      have lb := pb.length_eq
      have la := pa.length_eq
      obtain rfl : x = .int (trn bs as + (as.idxOf z : Nat) + 1) := hpp
      repeat walk_at "vs"
      refine r_ixL hg' rfl ?_
      repeat walk_at "vs"
      refine r_ixL hg' rfl ?_
      repeat walk_at "vs"
      exact ⟨bp, ap, bs, as, z, rfl, hbp, hap, by omega, by omega, fun x hx => pa.mem_iff.mpr (pb.mem_iff.mp hx), pa.mem_iff.mpr hz, hq⟩
    | wys m t =>
      have hg' : H gl = some (.lst [.int 3, gv, sv, .ref wl]) := hg
      obtain ⟨tp, rfl, htp⟩ := hpv
      obtain ⟨z, rfl, lz⟩ := okw
      obtain ⟨wp, rfl, hwp⟩ := hw
      obtain ⟨bz, rfl, _⟩ := okb
      obtain ⟨az, rfl, a0, a1⟩ := oka
      obtain rfl : bv = .int bz := hb
      obtain rfl : av = .int az := ha
      have i1 := atI_ints (ns := z) a0 (by omega)
      have hpp' : x = .int (if az = bz then z.getD az.toNat 0 else z.getD az.toNat 0 + t) := hpp
      repeat walk_at "vs"
      refine r_ixL hg' rfl ?_
      repeat walk_at "vs"
      refine r_ixL hg' rfl ?_
      repeat walk_at "vs"
      refine r_ixL hg' rfl ?_
      repeat walk_at "vs"
      refine r_ixT hwp i1 ?_
      repeat walk_at "vs"
      refine r_ixL hg' rfl ?_
      repeat walk_at "vs"
      refine r_ixT htp rfl ?_
      repeat walk_at "vs"
      have e : z.getD az.toNat 0 + t * (if (!decide (bz = az)) = true then 1 else 0) = if az = bz then z.getD az.toNat 0 else z.getD az.toNat 0 + t := by
        by_cases c : bz = az
        · rw [decide_eq_true c, if_pos c.symm]; simp
        · rw [decide_eq_false c, if_neg (show ¬ az = bz from fun h => c h.symm)]; simp
      rw [e, ← hpp']
      exact hq H Ext.rfl'
    | store m =>
      have hg' : H gl = some (.lst [.int 4, gv, sv, .ref wl]) := hg
      obtain ⟨z, rfl, hz⟩ := okw
      obtain rfl : wv = .str z := hw
      obtain ⟨bs, rfl, lb, nb⟩ := okb
      obtain ⟨as, rfl, la, na⟩ := oka
      obtain ⟨bp, rfl, hbp⟩ := hb
      obtain ⟨ap, rfl, hap⟩ := ha
      have hm4 := hwf.2
      have hpp' : x = if z ∈ as then .int ((as.filter fun x => !decide (x ∈ bs)).length : Nat) else .non := hpp
      repeat walk_at "vs"
      refine r_ixL hg' rfl ?_
      repeat walk_at "vs"
      refine r_ixL hg' rfl ?_
      repeat walk_at "vs"
      refine r_ixL hg' rfl ?_
      repeat walk_at "vs"
      refine r_ixL hg' rfl ?_
      repeat walk_at "vs"
      refine r_notinT hap rfl (flat_strs _) ?_
      rw [inV_strs]
      repeat walk_at "vs"
      refine iteN (fun h => ?_) (fun h => ?_)
      · rw [if_neg h] at hpp'
        subst hpp'
        repeat walk_at "vs"
        exact hq H Ext.rfl'
      · rw [if_pos h] at hpp'
        subst hpp'
        repeat walk_at "vs"
        refine r_ixL hg' rfl ?_
        repeat walk_at "vs"
        refine ⟨ap, rfl, ⟨_, SqT.of hap⟩, fun acc hn _ _ _ _ => comp_tup (SqT.of hap) (by rw [List.length_map]; omega) hn (fun j ys _ => ys = ((as.take j).filter fun t => !decide (t ∈ bs)).map V.str) (by simp) (fun _ _ _ _ _ h => h) (fun j ys H' _ h => by rw [h, List.length_map]; exact Nat.le_trans (List.length_filter_le _ _) (by rw [List.length_take]; omega)) ?_ ?_⟩
        · rintro j y ys H2 hy e rfl Y N hY hN
          obtain ⟨y, ey, rfl⟩ := get_str hy
          have et : as.take (j + 1) = as.take j ++ [y] := by rw [List.take_add_one, ey]; rfl
          repeat walk_at "vs"
          refine r_notinT (e _ _ hbp) rfl (flat_strs _) ?_
          rw [inV_strs]
          repeat walk_at "vs"
          refine iteN (fun h => ?_) (fun h => ?_)
          · repeat walk_at "vs"
            refine hY _ _ Ext.rfl' ?_
            rw [et, List.filter_append, List.filter_cons, if_pos (by simp [h]), List.map_append]
            rfl
          · repeat walk_at "vs"
            refine hN _ Ext.rfl' ?_
            rw [et, List.filter_append, List.filter_cons, if_neg (by simp [h]), List.filter_nil, List.append_nil]
        · rintro ys H2 e2 ha rfl
          rw [List.length_map, List.take_of_length_le (Nat.le_refl _)] at ha
          repeat walk_at "vs"
          refine r_lenWL ha ?_
          rw [List.length_map]
          exact hq H2 e2
    | bags R =>
      have hg' : H gl = some (.lst [.int 5, gv, sv, .ref wl]) := hg
      obtain rfl : gv = .int R := hpv
      obtain ⟨z, rfl, z1, z2⟩ := okw
      obtain rfl : wv = .int z := hw
      obtain ⟨bs, rfl, hL, lb⟩ := okb
      obtain ⟨as, rfl, hLa, la⟩ := oka
      obtain ⟨bp, rfl, hbp⟩ := hb
      obtain ⟨ap, rfl, hap⟩ := ha
      repeat walk_at "vs"
      refine r_ixL hg' rfl ?_
      repeat walk_at "vs"
      refine r_ixL hg' rfl ?_
      repeat walk_at "vs"
      refine r_ixL hg' rfl ?_
      repeat walk_at "vs"
      refine r_ixL hg' rfl ?_
      repeat walk_at "vs"
      refine r_ixL hg' rfl ?_
      repeat walk_at "vs"
      exact ⟨bp, ap, bs, as, z, R, x, rfl, hbp, hap, by omega, hpp, hq⟩
def sp_law_due : Sp := fun us H Q _ => ∃ (gl yl : Addr) (g : Gm) (st : StG) (ws : List WsG) (as : List StG) (yvs : List V) (v : V), us = [.ref gl, .ref yl] ∧ GameV H gl g st ws ∧ GameOk g st ws ∧ H yl = some (.lst yvs) ∧ AllR (StG.at_ H) as yvs ∧ as.length = ws.length ∧ (∀ s ∈ as, g.ok 40 s) ∧ DueG g st (ws.zip as) 0 v ∧ ∀ H', Ext H H' → Q v H'
theorem ok_law_due (T : Txt K mg a) : FnOk P w K mg base (CXU P w) 3 a.f_law_due a.d_law_due ["_law_game_here", "_law_way_here"] (sp_law_due) := by
  refine T.F_law_due.okU sc_law_due (fun vs H Q E h => ?_) (fun cdv A outer s H vs Q E hr h => ?_)
  · obtain ⟨gl, yl, g, st, ws, as, yvs, v, rfl, hG, ⟨hwf, okst, okw, l12⟩, hyl, has, la, oka, hd, hq⟩ := h
    rfl
  · obtain ⟨gl, yl, g, st, ws, as, yvs, v, rfl, hG, ⟨hwf, okst, okw, l12⟩, hyl, has, la, oka, hd, hq⟩ := h
    refine ⟨_, (pss_cons (ps_set (i := 2) sc_law_due.nd rfl (by first | exact Or.inl rfl | exact Or.inr rfl) pe_int)
      (pss_cons (ps_set (i := 3) sc_law_due.nd rfl (by first | exact Or.inl rfl | exact Or.inr rfl) (pe_ix oIx (pv 0) pe_int (fun _ _ => rfl)))
      (pss_cons (ps_for PassesOwn.never rfl (pi_range1 rfl T.n_range (pa_cons (pe_callB cLenW (by rfl) T.n_len PySem.boot_len (pa_cons (pv 1) pa_nil)) pa_nil)) (pg_name (i := 4) sc_law_due.nd rfl (by first | exact Or.inl rfl | exact Or.inr rfl)) (pss_cons (ps_set (i := 5) sc_law_due.nd rfl (by first | exact Or.inl rfl | exact Or.inr rfl) (pe_call (ok_law_price T) (hr.mono (by decide)) (by rfl) T.m_law_price T.F_law_price.kp T.b_law_price .nil passU (pa_cons (pv 0) (pa_cons (pv 3) (pa_cons (pe_ix oIx (pe_ix oIx (pv 0) pe_int (fun _ _ => rfl)) (pv 4) (fun _ _ => rfl)) (pa_cons (pe_ix oIx (pv 1) (pv 4) (fun _ _ => rfl)) pa_nil))))))
      (pss_cons (ps_if (pt_cmpR oIsN (pv 5) pe_non (nomark _)) (pss_one (ps_ret pe_non)) pss_nil)
      (pss_cons (ps_set (i := 2) sc_law_due.nd rfl (by first | exact Or.inl rfl | exact Or.inr rfl) (pe_op oAddW (pv 2) (pv 5)))
      (pss_one (ps_set (i := 3) sc_law_due.nd rfl (by first | exact Or.inl rfl | exact Or.inr rfl) (pe_ix oIx (pv 1) (pv 4) (fun _ _ => rfl))))))))
      (pss_one (ps_ret (pv 2)))))), ?_⟩
    have hG' := hG
    obtain ⟨gv, sv, wl, wvs, hg, hpv, hsv, hwl, hws⟩ := hG'
    have lw := hws.len
    have ly := has.len
    repeat walk_at "vs"
    refine r_ixL hg rfl ?_
    repeat walk_at "vs"
    refine r_lenWL hyl ?_
    repeat walk_at "vs"
    refine ⟨_, rfl, by omega, by omega, for_range (fun i σ H2 => ∃ (b : StG) (hv : V) (t : Int) (u1 u2 : Option V), σ = [some (.ref gl), some (.ref yl), some (.int t), some hv, u1, u2] ∧ Ext H H2 ∧ b.at_ H2 hv ∧ g.ok 40 b ∧ DueG g b ((ws.zip as).drop i) t v) ⟨st, sv, 0, none, none, rfl, Ext.rfl', hsv, Gm.ok_mono okst (by omega), hd⟩ ?_ ?_⟩
    · rintro i σ H2 hi ⟨b, hv, t, u1, u2, rfl, x2, hb2, okb, hd⟩
      rw [show ((0 : Int) + (i : Nat)) = (i : Nat) by omega]
      have hi' : i < wvs.length := by omega
      obtain ⟨wv, ewv⟩ : ∃ wv, wvs[i]? = some wv := ⟨_, List.getElem?_eq_getElem hi'⟩
      obtain ⟨av, eav⟩ : ∃ av, yvs[i]? = some av := ⟨_, List.getElem?_eq_getElem (by omega)⟩
      obtain ⟨ww, ew, hw⟩ := hws.get ewv
      obtain ⟨aa, ea, ha⟩ := has.get eav
      have iw : atI wvs (i : Nat) = some wv := atI_int (by omega) (by rw [Int.toNat_natCast]; exact ewv)
      have ia : atI yvs (i : Nat) = some av := atI_int (by omega) (by rw [Int.toNat_natCast]; exact eav)
      have okww := okw ww (List.mem_of_getElem? ew)
      have okaa := oka aa (List.mem_of_getElem? ea)
      have ed : (ws.zip as).drop i = (ww, aa) :: (ws.zip as).drop (i + 1) := by
        have hi : i < (ws.zip as).length := by rw [List.length_zip]; omega
        rw [List.drop_eq_getElem_cons hi]
        congr 1
        rw [List.getElem_zip]
        obtain ⟨_, e1⟩ := List.getElem?_eq_some_iff.mp ew
        obtain ⟨_, e2⟩ := List.getElem?_eq_some_iff.mp ea
        rw [e1, e2]
      rw [ed] at hd
      obtain ⟨xp, hpp, hd⟩ := hd
      repeat walk_at "vs"
      refine r_ixL (x2 _ _ hg) rfl ?_
      repeat walk_at "vs"
      refine r_ixL (x2 _ _ hwl) iw ?_
      repeat walk_at "vs"
      refine r_ixL (x2 _ _ hyl) ia ?_
      repeat walk_at "vs"
      refine ⟨gl, g, st, ws, b, aa, ww, hv, wv, av, xp, rfl, hG.mono x2, hwf, hb2, WsG.mono x2 hw, StG.mono x2 ha, okb, okww, okaa, hpp, fun H3 e3 => ?_⟩
      rcases hd with ⟨rfl, rfl⟩ | ⟨pr, rfl, hd⟩
      · repeat walk_at "vs"
        exact hq _ (x2.tr e3)
      · repeat walk_at "vs"
        refine r_ixL ((x2.tr e3) _ _ hyl) ia ?_
        repeat walk_at "vs"
        exact ⟨aa, av, _, _, _, rfl, x2.tr e3, StG.mono (x2.tr e3) ha, okaa, hd⟩
    · rintro σ H2 ⟨b, hv, t, u1, u2, rfl, x2, hb2, okb, hd⟩
      rw [Int.toNat_natCast, List.drop_of_length_le (by rw [List.length_zip]; omega)] at hd
      obtain rfl : v = .int t := hd
      repeat walk_at "vs"
      exact hq H2 x2
def sp_Ways_price (a : Adr) : Sp := fun vs H Q _ => ∃ (w dw p : Addr) (cs : List Int) (n b f t : Int), vs = [.ref w, .int b, .ref p, .int f] ∧ H w = some (.ins a.c_Ways dw [("many", .int n), ("toll", .int t)]) ∧ H p = some (.tup (cs.map V.int)) ∧ 0 ≤ f ∧ f < cs.length ∧ Q (.int (if f = b then cs.getD f.toNat 0 else cs.getD f.toNat 0 + t)) H
theorem ok_Ways_price (T : Txt K mg a) : FnOk P w K mg base (CXU P w) 1 a.f_Ways_price a.d_Ways_price ["self", "before", "wish", "after"] (sp_Ways_price a) := by
  refine T.F_Ways_price.okU sc_Ways_price (fun vs H Q E h => ?_) (fun cdv A outer s H vs Q E hr h => ?_)
  · obtain ⟨w, dw, p, cs, n, b, f, t, rfl, hw, hp, f0, f1, hq⟩ := h
    rfl
  · obtain ⟨w, dw, p, cs, n, b, f, t, rfl, hw, hp, f0, f1, hq⟩ := h
    have zc_Bags := T.cl_Bags
    have zn_Bags_room := T.na_Bags_room
    have zc_Hire := T.cl_Hire
    have zn_Hire_whole := T.na_Hire_whole
    have zc_Line := T.cl_Line
    have zn_Line_many := T.na_Line_many
    have zc_Shelf := T.cl_Shelf
    have zn_Shelf_things := T.na_Shelf_things
    have zc_Store := T.cl_Store
    have zn_Store_many := T.na_Store_many
    have zc_Ways := T.cl_Ways
    have zn_Ways_many := T.na_Ways_many
    have zn_Ways_toll := T.na_Ways_toll
    refine ⟨_, (pss_one (ps_ret (pe_ifExp (pt_cmpR (oEq hr) (pv 3) (pv 1) (nomark _)) (pe_ix oIx (pv 2) (pv 3) (fun _ _ => rfl)) (pe_op oAddW (pe_ix oIx (pv 2) (pv 3) (fun _ _ => rfl)) (pe_fld (pv 0) rfl))))), ?_⟩
    have i1 := atI_ints (ns := cs) f0 f1
    repeat walk_at "vs"
    refine iteD (fun c => ?_) (fun c => ?_)
    · rw [if_pos c] at hq
      repeat walk_at "vs"
      refine r_ixT hp i1 ?_
      exact hq
    · rw [if_neg c] at hq
      repeat walk_at "vs"
      refine r_ixT hp i1 ?_
      repeat walk_at "vs"
      exact hq
def sp_Store_price : Sp := fun vs H Q _ => ∃ (r p q : Addr) (ss qs : List Str) (w : Str), vs = [.ref r, .ref p, .str w, .ref q] ∧ H p = some (.tup (ss.map V.str)) ∧ H q = some (.tup (qs.map V.str)) ∧ qs.length ≤ 1000 ∧ ∀ H', Ext H H' → Q (if w ∈ qs then .int ((qs.filter fun t => !decide (t ∈ ss)).length : Nat) else .non) H'
theorem ok_Store_price (T : Txt K mg a) : FnOk P w K mg base (CXU P w) 1 a.f_Store_price a.d_Store_price ["self", "before", "wish", "after"] (sp_Store_price) := by
  refine T.F_Store_price.okU sc_Store_price (fun vs H Q E h => ?_) (fun cdv A outer s H vs Q E hr h => ?_)
  · obtain ⟨r, p, q, ss, qs, w, rfl, hp, hq', hl, hq⟩ := h
    rfl
  · obtain ⟨r, p, q, ss, qs, w, rfl, hp, hq', hl, hq⟩ := h
    refine ⟨_, (pss_cons (ps_if (pt_cmpR oNotIn (pv 2) (pv 3) (by with_unfolding_all rfl)) (pss_one (ps_ret pe_non)) pss_nil)
      (pss_one (ps_ret (pe_callB cLenW (by rfl) T.n_len PySem.boot_len (pa_cons (pe_comp (["page"] : List Str) (["before"] : List Str) [1] rfl ⟨rfl, by decide +kernel, by decide +kernel, by rfl, ⟨⟨rfl, by first | exact Or.inl rfl | exact Or.inr rfl, by first | exact Or.inl rfl | exact Or.inr rfl⟩, trivial⟩⟩ (pi_tup (pv 3)) (fun _ _ _ _ => ⟨(pg_name (i := 0) (by show ((["page"] : List Str) ++ (["before"] : List Str)).Nodup; decide +kernel) rfl (by first | exact Or.inl rfl | exact Or.inr rfl)), (show PTs _ [_] [_] from ⟨(pt_cmpR oNotIn (pv 0) (pv 1) (by with_unfolding_all rfl)), trivial⟩), (pv 0)⟩)) pa_nil))))), ?_⟩
    repeat walk_at "vs"
    refine r_notinT hq' rfl (flat_strs _) ?_
    rw [inV_strs]
    repeat walk_at "vs"
    refine iteN (fun hw => ?_) (fun hw => ?_)
    · repeat walk_at "vs"
      have e : (if w ∈ qs then V.int ((qs.filter fun t => !decide (t ∈ ss)).length : Nat) else V.non) = .non := if_neg hw
      rw [← e]
      exact hq H Ext.rfl'
    have e0 : (if w ∈ qs then V.int ((qs.filter fun t => !decide (t ∈ ss)).length : Nat) else V.non) = .int ((qs.filter fun t => !decide (t ∈ ss)).length : Nat) := if_pos hw
    rw [e0] at hq
    repeat walk_at "vs"
    refine ⟨q, rfl, ⟨_, SqT.of hq'⟩, fun acc hn _ _ _ _ => comp_tup (SqT.of hq') (by rw [List.length_map]; omega) hn (fun j ys _ => ys = ((qs.take j).filter fun t => !decide (t ∈ ss)).map V.str) (by simp) (fun _ _ _ _ _ h => h) (fun j ys H' _ h => by rw [h, List.length_map]; exact Nat.le_trans (List.length_filter_le _ _) (by rw [List.length_take]; omega)) ?_ ?_⟩
    · rintro j y ys H2 hy e rfl Y N hY hN
      obtain ⟨y, ey, rfl⟩ := get_str hy
      have et : qs.take (j + 1) = qs.take j ++ [y] := by rw [List.take_add_one, ey]; rfl
      repeat walk_at "vs"
      refine r_notinT (e _ _ hp) rfl (flat_strs _) ?_
      rw [inV_strs]
      repeat walk_at "vs"
      refine iteN (fun h => ?_) (fun h => ?_)
      · repeat walk_at "vs"
        refine hY _ _ Ext.rfl' ?_
        rw [et, List.filter_append, List.filter_cons, if_pos (by simp [h]), List.map_append]
        rfl
      · repeat walk_at "vs"
        refine hN _ Ext.rfl' ?_
        rw [et, List.filter_append, List.filter_cons, if_neg (by simp [h]), List.filter_nil, List.append_nil]
    · rintro ys H2 e2 ha rfl
      rw [List.length_map, List.take_of_length_le (Nat.le_refl _)] at ha
      repeat walk_at "vs"
      refine r_lenWL ha ?_
      rw [List.length_map]
      exact hq H2 e2
def sp_overtakers : Sp := fun vs H Q _ => ∃ (p q : Addr) (ss qs : List Str) (i : Nat), vs = [.ref p, .int (i : Nat), .ref q] ∧ H p = some (.tup (ss.map V.str)) ∧ H q = some (.tup (qs.map V.str)) ∧ i < ss.length ∧ ss.length ≤ 1000 ∧ qs.length ≤ 1000 ∧ (∀ x ∈ ss, x ∈ qs) ∧ ∀ H', Ext H H' → Q (.int (ovt ss qs i : Nat)) H'
theorem ok_overtakers (T : Txt K mg a) : FnOk P w K mg base (CXU P w) 1 a.f_overtakers a.d_overtakers ["order", "at", "other"] (sp_overtakers) := by
  refine T.F_overtakers.okU sc_overtakers (fun vs H Q E h => ?_) (fun cdv A outer s H vs Q E hr h => ?_)
  · obtain ⟨p, q, ss, qs, i, rfl, hp, hq', hi, hl, hl2, hs, hq⟩ := h
    rfl
  · obtain ⟨p, q, ss, qs, i, rfl, hp, hq', hi, hl, hl2, hs, hq⟩ := h
    have zc_Bags := T.cl_Bags
    have zn_Bags_room := T.na_Bags_room
    have zc_Hire := T.cl_Hire
    have zn_Hire_whole := T.na_Hire_whole
    have zc_Line := T.cl_Line
    have zn_Line_many := T.na_Line_many
    have zc_Shelf := T.cl_Shelf
    have zn_Shelf_things := T.na_Shelf_things
    have zc_Store := T.cl_Store
    have zn_Store_many := T.na_Store_many
    have zc_Ways := T.cl_Ways
    have zn_Ways_many := T.na_Ways_many
    have zn_Ways_toll := T.na_Ways_toll
    refine ⟨_, (pss_cons (ps_set (i := 3) sc_overtakers.nd rfl (by first | exact Or.inl rfl | exact Or.inr rfl) (pe_tm PySem.F.plainAttrs_tuple PySem.F.slot_tuple_index PySem.F.type_tuple_index mt_tindex (pv 2) (pa_cons (pe_ix oIx (pv 0) (pv 1) (fun _ _ => rfl)) pa_nil)))
      (pss_one (ps_ret (pe_callB cLenW (by rfl) T.n_len PySem.boot_len (pa_cons (pe_comp (["thing"] : List Str) (["other", "place"] : List Str) [2, 3] rfl ⟨rfl, by decide +kernel, by decide +kernel, by rfl, ⟨⟨rfl, by first | exact Or.inl rfl | exact Or.inr rfl, by first | exact Or.inl rfl | exact Or.inr rfl⟩, ⟨rfl, by first | exact Or.inl rfl | exact Or.inr rfl, by first | exact Or.inl rfl | exact Or.inr rfl⟩, trivial⟩⟩ (pi_tup (pe_slice oSl (pv 0) (po_some (pe_op oAddW (pv 1) pe_int)) po_none)) (fun _ _ _ _ => ⟨(pg_name (i := 0) (by show ((["thing"] : List Str) ++ (["other", "place"] : List Str)).Nodup; decide +kernel) rfl (by first | exact Or.inl rfl | exact Or.inr rfl)), (show PTs _ [_] [_] from ⟨(pt_cmpR op_lt (pe_tm PySem.F.plainAttrs_tuple PySem.F.slot_tuple_index PySem.F.type_tuple_index mt_tindex (pv 1) (pa_cons (pv 0) pa_nil)) (pv 2) (nomark _)), trivial⟩), (pv 0)⟩)) pa_nil))))), ?_⟩
    have gi : ss.getD i ⟨#[]⟩ ∈ ss := by rw [List.getD_eq_getElem?_getD, List.getElem?_eq_getElem hi]; exact List.getElem_mem hi
    repeat walk_at "vs"
    refine r_ixT hp (v := .str (ss.getD i ⟨#[]⟩)) (by have := atI_strs (ss := ss) (k := (i : Nat)) (by omega) (by omega); rwa [Int.toNat_natCast] at this) ?_
    repeat walk_at "vs"
    refine r_tindex hq' (hs _ gi) (by omega) ?_
    repeat walk_at "vs"
    refine r_slT hp (by rintro ⟨z, _⟩; rw [show ((i : Int) + 1) = ((i + 1 : Nat) : Int) by omega, HT.sIx_nat, List.length_map] at z; omega) fun l H1 n1 q1 e1 => ?_
    have ec : cutV (ss.map V.str) (some ((i : Int) + 1)) none = (ss.drop (i + 1)).map V.str := by
      unfold cutV
      rw [show ((i : Int) + 1) = ((i + 1 : Nat) : Int) by omega, HT.sIx_nat, HT.sIx_none, List.length_map, Nat.min_eq_left (by omega), ← List.map_drop, List.take_of_length_le (by rw [List.length_map, List.length_drop]; exact Nat.le_refl _)]
    rw [ec] at q1
    have hq1 := e1 _ _ hq'
    refine ⟨l, rfl, ⟨_, SqT.of q1⟩, fun acc hn _ _ _ _ => comp_tup (SqT.of q1) (by rw [List.length_map, List.length_drop]; omega) hn (fun j ys _ => ys = (((ss.drop (i + 1)).take j).filter fun t => decide (qs.idxOf t < qs.idxOf (ss.getD i ⟨#[]⟩))).map V.str) (by simp) (fun _ _ _ _ _ h => h) (fun j ys H' _ h => by rw [h, List.length_map]; exact Nat.le_trans (List.length_filter_le _ _) (by rw [List.length_take]; omega)) ?_ ?_⟩
    · rintro j y ys H2 hy e rfl Y N hY hN
      obtain ⟨y, ey, rfl⟩ := get_str hy
      have hq2 := e _ _ hq1
      have hyq : y ∈ qs := hs y (List.mem_of_mem_drop (List.mem_of_getElem? ey))
      repeat walk_at "vs"
      refine r_tindex hq2 hyq (by omega) ?_
      repeat walk_at "vs"
      have et : ((ss.drop (i + 1)).take (j + 1)) = ((ss.drop (i + 1)).take j) ++ [y] := by rw [List.take_add_one, ey]; rfl
      refine iteD (fun h => ?_) (fun h => ?_)
      · repeat walk_at "vs"
        refine hY _ _ Ext.rfl' ?_
        rw [et, List.filter_append, List.filter_cons, if_pos (decide_eq_true (by omega)), List.map_append]
        rfl
      · repeat walk_at "vs"
        refine hN _ Ext.rfl' ?_
        rw [et, List.filter_append, List.filter_cons, if_neg (fun z => h (by have := of_decide_eq_true z; omega)), List.filter_nil, List.append_nil]
    · rintro ys H2 e ha rfl
      rw [List.length_map, List.take_of_length_le (Nat.le_refl _)] at ha
      repeat walk_at "vs"
      refine r_lenWL ha ?_
      rw [List.length_map]
      exact hq H2 (e1.tr e)
def sp_turned_pairs : Sp := fun vs H Q _ => ∃ (p q : Addr) (ss qs : List Str), vs = [.ref p, .ref q] ∧ H p = some (.tup (ss.map V.str)) ∧ H q = some (.tup (qs.map V.str)) ∧ ss.length ≤ 1000 ∧ qs.length ≤ 1000 ∧ (∀ x ∈ ss, x ∈ qs) ∧ ∀ H', Ext H H' → Q (.int (trn ss qs)) H'
theorem ok_turned_pairs (T : Txt K mg a) : FnOk P w K mg base (CXU P w) 2 a.f_turned_pairs a.d_turned_pairs ["before", "after"] (sp_turned_pairs) := by
  refine T.F_turned_pairs.okU sc_turned_pairs (fun vs H Q E h => ?_) (fun cdv A outer s H vs Q E hr h => ?_)
  · obtain ⟨p, q, ss, qs, rfl, hp, hq', hl, hl2, hs, hq⟩ := h
    rfl
  · obtain ⟨p, q, ss, qs, rfl, hp, hq', hl, hl2, hs, hq⟩ := h
    refine ⟨_, (pss_one (ps_ret (pe_callB (cSum rfl) (by rfl) T.n_sum PyProof.Rows.boot_sum (pa_cons (pe_comp (["at"] : List Str) (["before", "after"] : List Str) [0, 1] rfl ⟨rfl, by decide +kernel, by decide +kernel, by rfl, ⟨⟨rfl, by first | exact Or.inl rfl | exact Or.inr rfl, by first | exact Or.inl rfl | exact Or.inr rfl⟩, ⟨rfl, by first | exact Or.inl rfl | exact Or.inr rfl, by first | exact Or.inl rfl | exact Or.inr rfl⟩, trivial⟩⟩ (pi_range1 rfl T.n_range (pa_cons (pe_callB cLenW (by rfl) T.n_len PySem.boot_len (pa_cons (pv 0) pa_nil)) pa_nil)) (fun _ _ _ _ => ⟨(pg_name (i := 0) (by show ((["at"] : List Str) ++ (["before", "after"] : List Str)).Nodup; decide +kernel) rfl (by first | exact Or.inl rfl | exact Or.inr rfl)), (show PTs _ [] [] from trivial), (pe_call (ok_overtakers T) (hr.mono (by decide)) (by rfl) T.m_overtakers T.F_overtakers.kp T.b_overtakers .nil passU (pa_cons (pv 1) (pa_cons (pv 0) (pa_cons (pv 2) pa_nil))))⟩)) pa_nil)))), ?_⟩
    repeat walk_at "vs"
    refine r_lenWT hp ?_
    rw [List.length_map]
    refine ⟨_, rfl, by omega, by omega, fun acc hn _ _ _ _ => comp_mapR V.int (fun (i : Nat) => (ovt ss qs i : Int)) (by omega) hn (fun i H3 Y hi e hY => ?_) fun H2 e2 ha => ?_⟩
    · repeat walk_at "vs"
      exact ⟨p, q, ss, qs, i, rfl, e _ _ hp, e _ _ hq', by omega, hl, hl2, hs, fun H4 e4 => hY H4 e4⟩
    · repeat walk_at "vs"
      refine r_sum ha ?_
      rw [Int.toNat_natCast]
      exact hq H2 e2
def sp_Shelf_price : Sp := fun vs H Q _ => ∃ (r p q : Addr) (ss qs : List Str) (w : Str), vs = [.ref r, .ref p, .str w, .ref q] ∧ H p = some (.tup (ss.map V.str)) ∧ H q = some (.tup (qs.map V.str)) ∧ ss.length ≤ 1000 ∧ qs.length ≤ 1000 ∧ (∀ x ∈ ss, x ∈ qs) ∧ w ∈ qs ∧ ∀ H', Ext H H' → Q (.int (trn ss qs + (qs.idxOf w : Nat) + 1)) H'
theorem ok_Shelf_price (T : Txt K mg a) : FnOk P w K mg base (CXU P w) 3 a.f_Shelf_price a.d_Shelf_price ["self", "before", "wish", "after"] (sp_Shelf_price) := by
  refine T.F_Shelf_price.okU sc_Shelf_price (fun vs H Q E h => ?_) (fun cdv A outer s H vs Q E hr h => ?_)
  · obtain ⟨r, p, q, ss, qs, w, rfl, hp, hq', hl, hl2, hs, hw, hq⟩ := h
    rfl
  · obtain ⟨r, p, q, ss, qs, w, rfl, hp, hq', hl, hl2, hs, hw, hq⟩ := h
    have zc_Bags := T.cl_Bags
    have zn_Bags_room := T.na_Bags_room
    have zc_Hire := T.cl_Hire
    have zn_Hire_whole := T.na_Hire_whole
    have zc_Line := T.cl_Line
    have zn_Line_many := T.na_Line_many
    have zc_Shelf := T.cl_Shelf
    have zn_Shelf_things := T.na_Shelf_things
    have zc_Store := T.cl_Store
    have zn_Store_many := T.na_Store_many
    have zc_Ways := T.cl_Ways
    have zn_Ways_many := T.na_Ways_many
    have zn_Ways_toll := T.na_Ways_toll
    refine ⟨_, (pss_one (ps_ret (pe_op oAddW (pe_op oAddW (pe_call (ok_turned_pairs T) (hr.mono (by decide)) (by rfl) T.m_turned_pairs T.F_turned_pairs.kp T.b_turned_pairs .nil passU (pa_cons (pv 1) (pa_cons (pv 3) pa_nil))) (pe_tm PySem.F.plainAttrs_tuple PySem.F.slot_tuple_index PySem.F.type_tuple_index mt_tindex (pv 3) (pa_cons (pv 2) pa_nil))) pe_int))), ?_⟩
    repeat walk_at "vs"
    refine ⟨p, q, ss, qs, rfl, hp, hq', hl, hl2, hs, fun H1 e1 => ?_⟩
    have hq1 := e1 _ _ hq'
    repeat walk_at "vs"
    refine r_tindex hq1 hw (by omega) ?_
    repeat walk_at "vs"
    exact hq H1 e1
def sp_ways_between : Sp := fun vs H Q _ => ∃ (p q : Addr) (ns ms : List Int), vs = [.ref p, .ref q] ∧ H p = some (.tup (ns.map V.int)) ∧ H q = some (.tup (ms.map V.int)) ∧ ns.length = ms.length ∧ ns.length ≤ 1000 ∧ ∀ H', Ext H H' → Q (.int (ways ns ms)) H'
theorem ok_ways_between (T : Txt K mg a) : FnOk P w K mg base (CXU P w) 1 a.f_ways_between a.d_ways_between ["before", "after"] (sp_ways_between) := by
  refine T.F_ways_between.okU sc_ways_between (fun vs H Q E h => ?_) (fun cdv A outer s H vs Q E hr h => ?_)
  · obtain ⟨p, q, ns, ms, rfl, hp, hq', hl, hz, hq⟩ := h
    rfl
  · obtain ⟨p, q, ns, ms, rfl, hp, hq', hl, hz, hq⟩ := h
    refine ⟨_, (pss_one (ps_ret (pe_callB (cSum rfl) (by rfl) T.n_sum PyProof.Rows.boot_sum (pa_cons (pe_comp (["here", "there"] : List Str) ([] : List Str) [] rfl ⟨rfl, by decide +kernel, by decide +kernel, by rfl, trivial⟩ (pi_zip2 rfl T.n_zip (pa_cons (pv 0) (pa_cons (pv 1) pa_nil))) (fun _ _ _ _ => ⟨(pg_tup rfl (pgs_cons (pg_name (i := 0) (by show ((["here", "there"] : List Str) ++ ([] : List Str)).Nodup; decide +kernel) rfl (by first | exact Or.inl rfl | exact Or.inr rfl)) (pgs_cons (pg_name (i := 1) (by show ((["here", "there"] : List Str) ++ ([] : List Str)).Nodup; decide +kernel) rfl (by first | exact Or.inl rfl | exact Or.inr rfl)) pgs_nil))), (show PTs _ [] [] from trivial), (pe_callB cAbs (by rfl) T.n_abs PyProof.Rows.boot_abs (pa_cons (pe_op op_sub (pv 0) (pv 1)) pa_nil))⟩)) pa_nil)))), ?_⟩
    repeat walk_at "vs"
    refine ⟨p, q, ns.map V.int, ms.map V.int, true, true, rfl, SqT.of hp, SqT.of hq', fun acc hn _ _ _ _ => comp_zip2 (c := true) (d := true) (SqT.of hp) (SqT.of hq') (by simpa using hl) (by rw [List.length_map]; omega) hn
      (fun i ys _ => ys = ((List.zipWith (fun a b : Int => ((a - b).natAbs : Int)) ns ms).take i).map V.int) (by simp) (fun _ _ _ _ _ h => h) (fun i ys H' _ h => by rw [h, List.length_map, List.length_take]; omega) ?_ ?_⟩
    · rintro i x z ys H2 H3 hx hz' e e3 rfl Y N hY hN
      obtain ⟨x, ex, rfl⟩ := get_int hx
      obtain ⟨z, ez, rfl⟩ := get_int hz'
      repeat walk_at "vs"
      refine hY _ _ e3 ?_
      rw [List.take_add_one, List.map_append, List.getElem?_zipWith, ex, ez]
      rfl
    · rintro ys H2 e ha rfl
      rw [List.take_of_length_le (by rw [List.length_zipWith, List.length_map]; omega)] at ha
      repeat walk_at "vs"
      exact r_sum ha (hq H2 e)
def sp_Line_price : Sp := fun vs H Q _ => ∃ (r p q : Addr) (ns ms : List Int) (w : Int), vs = [.ref r, .ref p, .int w, .ref q] ∧ H p = some (.tup (ns.map V.int)) ∧ H q = some (.tup (ms.map V.int)) ∧ ns.length = ms.length ∧ ns.length ≤ 1000 ∧ ∀ H', Ext H H' → Q (if w ∈ ms then .int (ways ns ms) else .non) H'
theorem ok_Line_price (T : Txt K mg a) : FnOk P w K mg base (CXU P w) 2 a.f_Line_price a.d_Line_price ["self", "before", "wish", "after"] (sp_Line_price) := by
  refine T.F_Line_price.okU sc_Line_price (fun vs H Q E h => ?_) (fun cdv A outer s H vs Q E hr h => ?_)
  · obtain ⟨r, p, q, ns, ms, w, rfl, hp, hq', hl, hz, hq⟩ := h
    rfl
  · obtain ⟨r, p, q, ns, ms, w, rfl, hp, hq', hl, hz, hq⟩ := h
    refine ⟨_, (pss_cons (ps_if (pt_cmpR oNotIn (pv 2) (pv 3) (by with_unfolding_all rfl)) (pss_one (ps_ret pe_non)) pss_nil)
      (pss_one (ps_ret (pe_call (ok_ways_between T) (hr.mono (by decide)) (by rfl) T.m_ways_between T.F_ways_between.kp T.b_ways_between .nil passU (pa_cons (pv 1) (pa_cons (pv 3) pa_nil)))))), ?_⟩
    repeat walk_at "vs"
    refine r_notinT hq' rfl (flat_ints _) ?_
    rw [inV_ints]
    repeat walk_at "vs"
    refine iteN (fun h => ?_) (fun h => ?_)
    · rw [if_neg h] at hq
      repeat walk_at "vs"
      exact hq H Ext.rfl'
    · rw [if_pos h] at hq
      repeat walk_at "vs"
      exact ⟨p, q, ns, ms, rfl, hp, hq', hl, hz, hq⟩
def sp_Hire_price (a : Adr) : Sp := fun vs H Q _ => ∃ (r dw : Addr) (W b : Int) (h : V) (f : Int), vs = [.ref r, .int b, h, .int f] ∧ H r = some (.ins a.c_Hire dw [("whole", .int W)]) ∧ Q (if b = 1 then (if f = 1 then .int 0 else .non) else (if f = 1 then .int W else h)) H
theorem ok_Hire_price (T : Txt K mg a) : FnOk P w K mg base (CXU P w) 1 a.f_Hire_price a.d_Hire_price ["self", "before", "wish", "after"] (sp_Hire_price a) := by
  refine T.F_Hire_price.okU sc_Hire_price (fun vs H Q E h => ?_) (fun cdv A outer s H vs Q E hr h => ?_)
  · obtain ⟨r, dw, W, b, h, f, rfl, hr0, hq⟩ := h
    rfl
  · obtain ⟨r, dw, W, b, h, f, rfl, hr0, hq⟩ := h
    have zc_Bags := T.cl_Bags
    have zn_Bags_room := T.na_Bags_room
    have zc_Hire := T.cl_Hire
    have zn_Hire_whole := T.na_Hire_whole
    have zc_Line := T.cl_Line
    have zn_Line_many := T.na_Line_many
    have zc_Shelf := T.cl_Shelf
    have zn_Shelf_things := T.na_Shelf_things
    have zc_Store := T.cl_Store
    have zn_Store_many := T.na_Store_many
    have zc_Ways := T.cl_Ways
    have zn_Ways_many := T.na_Ways_many
    have zn_Ways_toll := T.na_Ways_toll
    refine ⟨_, (pss_cons (ps_if (pt_cmpR (oEq hr) (pv 1) pe_int (nomark _)) (pss_one (ps_ret (pe_ifExp (pt_cmpR (oEq hr) (pv 3) pe_int (nomark _)) pe_int pe_non))) pss_nil)
      (pss_one (ps_ret (pe_ifExp (pt_cmpR (oEq hr) (pv 3) pe_int (nomark _)) (pe_fld (pv 0) rfl) (pv 2))))), ?_⟩
    repeat walk_at "vs"
    refine iteD (fun h => ?_) (fun h => ?_)
    · rw [if_pos h] at hq
      repeat walk_at "vs"
      refine iteD (fun h => ?_) (fun h => ?_)
      · rw [if_pos h] at hq
        repeat walk_at "vs"
        exact hq
      · rw [if_neg h] at hq
        repeat walk_at "vs"
        exact hq
    · rw [if_neg h] at hq
      repeat walk_at "vs"
      refine iteD (fun h => ?_) (fun h => ?_)
      · rw [if_pos h] at hq
        repeat walk_at "vs"
        exact hq
      · rw [if_neg h] at hq
        repeat walk_at "vs"
        exact hq
def sp_filled : Sp := fun vs H Q _ => ∃ (p : Addr) (os : List Int) (s : Int) (kk : Nat), vs = [.ref p, .int (kk : Nat), .int s] ∧ H p = some (.tup (os.map V.int)) ∧ kk < os.length ∧ os.length ≤ 60 ∧ ∀ q (fs : List Int) H', fs.Perm (os.set kk (os.getD kk 0 + s)) → fs.Pairwise (· ≤ ·) → H' q = some (.tup (fs.map V.int)) → Ext H H' → Q (.ref q) H'
theorem ok_filled (T : Txt K mg a) : FnOk P w K mg base (CXU P w) 1 a.f_filled a.d_filled ["loads", "at", "size"] (sp_filled) := by
  refine T.F_filled.okU sc_filled (fun vs H Q E h => ?_) (fun cdv A outer s H vs Q E hr h => ?_)
  · obtain ⟨p, os, s, kk, rfl, hp, hkk, hl, hq⟩ := h
    rfl
  · obtain ⟨p, os, s, kk, rfl, hp, hkk, hl, hq⟩ := h
    refine ⟨_, (pss_one (ps_ret (pe_callTy cTuple (by rfl) T.n_tuple PyProof.Rows.boot_tuple (pa_cons (pe_callB cSortW (by rfl) T.n_sorted PyProof.Rows.boot_sorted (pa_cons (pe_op oAddW (pe_op oAddW (pe_slice oSl (pv 0) po_none (po_some (pv 1))) (pe_tup (pa_cons (pe_op oAddW (pe_ix oIx (pv 0) (pv 1) (fun _ _ => rfl)) (pv 2)) pa_nil))) (pe_slice oSl (pv 0) (po_some (pe_op oAddW (pv 1) pe_int)) po_none)) pa_nil)) pa_nil)))), ?_⟩
    have s1 : cutV (os.map V.int) none (some ((kk : Nat) : Int)) = (os.take kk).map V.int := by
      unfold cutV
      rw [HT.sIx_nat, HT.sIx_none, List.length_map, List.drop_zero, Nat.sub_zero, Nat.min_eq_left (Nat.le_of_lt hkk), List.map_take]
    have s2 : cutV (os.map V.int) (some (((kk : Nat) : Int) + 1)) none = (os.drop (kk + 1)).map V.int := by
      unfold cutV
      rw [show (((kk : Nat) : Int) + 1) = ((kk + 1 : Nat) : Int) by omega, HT.sIx_nat, HT.sIx_none, List.length_map, Nat.min_eq_left (show kk + 1 ≤ os.length by omega), ← List.map_drop, List.take_of_length_le (by rw [List.length_map, List.length_drop]; exact Nat.le_refl _)]
    have i1 := atI_ints (ns := os) (k := (kk : Nat)) (by omega) (by omega)
    rw [Int.toNat_natCast] at i1
    repeat walk_at "vs"
    refine r_slT hp (by rintro ⟨_, z⟩; rw [HT.sIx_nat, List.length_map] at z; omega) fun l1 H1 n1 q1 e1 => ?_
    rw [s1] at q1
    have hp1 := e1 _ _ hp
    repeat walk_at "vs"
    refine r_ixT hp1 i1 ?_
    repeat walk_at "vs"
    intro p2 H2 n2 q2 e2
    repeat walk_at "vs"
    refine r_addWT (e2 _ _ q1) q2 (by simp; omega) fun p3 H3 q3 e3 => ?_
    have hp3 := e3 _ _ (e2 _ _ hp1)
    repeat walk_at "vs"
    refine r_slT hp3 (by rintro ⟨z, _⟩; rw [show (((kk : Nat) : Int) + 1) = ((kk + 1 : Nat) : Int) by omega, HT.sIx_nat, List.length_map] at z; omega) fun l4 H4 n4 q4 e4 => ?_
    rw [s2] at q4
    repeat walk_at "vs"
    refine r_addWT (e4 _ _ q3) q4 (by simp; omega) fun p5 H5 q5 e5 => ?_
    rw [show (os.take kk).map V.int ++ [V.int (os.getD kk 0 + s)] ++ (os.drop (kk + 1)).map V.int = (os.set kk (os.getD kk 0 + s)).map V.int by rw [← set_tk hkk]; simp] at q5
    repeat walk_at "vs"
    refine r_srtT q5 (by simp; omega) fun l6 ns' H6 n6 hp6 hs6 q6 e6 => ?_
    repeat walk_at "vs"
    refine r_tupleL q6 fun l7 H7 n7 q7 e7 => ?_
    exact hq l7 ns' H7 hp6 hs6 q7 ((((((e1.tr e2).tr e3).tr e4).tr e5).tr e6).tr e7)
def sp_opened : Sp := fun vs H Q _ => ∃ (p : Addr) (os : List Int) (s : Int), vs = [.ref p, .int s] ∧ H p = some (.tup (os.map V.int)) ∧ os.length ≤ 60 ∧ ∀ q (fs : List Int) H', fs.Perm (os ++ [s]) → fs.Pairwise (· ≤ ·) → H' q = some (.tup (fs.map V.int)) → Ext H H' → Q (.ref q) H'
theorem ok_opened (T : Txt K mg a) : FnOk P w K mg base (CXU P w) 1 a.f_opened a.d_opened ["loads", "size"] (sp_opened) := by
  refine T.F_opened.okU sc_opened (fun vs H Q E h => ?_) (fun cdv A outer s H vs Q E hr h => ?_)
  · obtain ⟨p, os, s, rfl, hp, hl, hq⟩ := h
    rfl
  · obtain ⟨p, os, s, rfl, hp, hl, hq⟩ := h
    refine ⟨_, (pss_one (ps_ret (pe_callTy cTuple (by rfl) T.n_tuple PyProof.Rows.boot_tuple (pa_cons (pe_callB cSortW (by rfl) T.n_sorted PyProof.Rows.boot_sorted (pa_cons (pe_op oAddW (pv 0) (pe_tup (pa_cons (pv 1) pa_nil))) pa_nil)) pa_nil)))), ?_⟩
    repeat walk_at "vs"
    intro p1 H1 n1 q1 e1
    repeat walk_at "vs"
    refine r_addWT (e1 _ _ hp) q1 (by simp; omega) fun p2 H2 q2 e2 => ?_
    rw [show os.map V.int ++ [V.int s] = (os ++ [s]).map V.int by simp] at q2
    repeat walk_at "vs"
    refine r_srtT q2 (by simp; omega) fun l3 ns' H3 n3 hp3 hs3 q3 e3 => ?_
    repeat walk_at "vs"
    refine r_tupleL q3 fun l4 H4 n4 q4 e4 => ?_
    exact hq l4 ns' H4 hp3 hs3 q4 (((e1.tr e2).tr e3).tr e4)
theorem fil_first {n j : Nat} {p : Nat → Bool} {r : List Nat} (h : (List.range n).filter p = j :: r) : j < n ∧ p j = true ∧ ∀ i, i < j → p i = false := by
  have hm : j ∈ (List.range n).filter p := by rw [h]; exact List.mem_cons_self
  obtain ⟨m1, m2⟩ := List.mem_filter.mp hm
  refine ⟨List.mem_range.mp m1, m2, fun i hi => ?_⟩
  cases e : p i with
  | false => rfl
  | true =>
    exfalso
    have hi' : i ∈ (List.range n).filter p := List.mem_filter.mpr ⟨List.mem_range.mpr (by have := List.mem_range.mp m1; omega), e⟩
    have sl : ((List.range n).filter p).Pairwise (· < ·) := List.Pairwise.filter _ List.pairwise_lt_range
    rw [h] at hi' sl
    rcases List.mem_cons.mp hi' with z | z
    · omega
    · have := (List.pairwise_cons.mp sl).1 i z
      omega
def sp_Bags_price (a : Adr) : Sp := fun vs H Q _ => ∃ (w dw b f : Addr) (os fs : List Int) (R s : Int) (v : V), vs = [.ref w, .ref b, .int s, .ref f] ∧ H w = some (.ins a.c_Bags dw [("room", .int R)]) ∧ H b = some (.tup (os.map V.int)) ∧ H f = some (.tup (fs.map V.int)) ∧ Lds R os ∧ 1 ≤ s ∧ os.length ≤ 60 ∧ PrV R os s fs v ∧ ∀ H', Ext H H' → Q v H'
theorem ok_Bags_price (T : Txt K mg a) : FnOk P w K mg base (CXU P w) 2 a.f_Bags_price a.d_Bags_price ["self", "before", "wish", "after"] (sp_Bags_price a) := by
  refine T.F_Bags_price.okU sc_Bags_price (fun vs H Q E h => ?_) (fun cdv A outer s H vs Q E hr h => ?_)
  · obtain ⟨w, dw, b, f, os, fs, R, s, v, rfl, hw, hb, hf, hos, s1, hl, hg, hq⟩ := h
    rfl
  · obtain ⟨w, dw, b, f, os, fs, R, s, v, rfl, hw, hb, hf, hos, s1, hl, hg, hq⟩ := h
    have zc_Bags := T.cl_Bags
    have zn_Bags_room := T.na_Bags_room
    have zc_Hire := T.cl_Hire
    have zn_Hire_whole := T.na_Hire_whole
    have zc_Line := T.cl_Line
    have zn_Line_many := T.na_Line_many
    have zc_Shelf := T.cl_Shelf
    have zn_Shelf_things := T.na_Shelf_things
    have zc_Store := T.cl_Store
    have zn_Store_many := T.na_Store_many
    have zc_Ways := T.cl_Ways
    have zn_Ways_many := T.na_Ways_many
    have zn_Ways_toll := T.na_Ways_toll
    refine ⟨_, (pss_cons (ps_if (pt_cmpR op_ne (pe_callB cLenW (by rfl) T.n_len PySem.boot_len (pa_cons (pv 3) pa_nil)) (pe_callB cLenW (by rfl) T.n_len PySem.boot_len (pa_cons (pv 1) pa_nil)) (nomark _)) (pss_one (ps_ret (pe_ifExp (PW.pt (pw_and (pt_cmpR op_lt (pe_callB cLenW (by rfl) T.n_len PySem.boot_len (pa_cons (pv 1) pa_nil)) (pe_glob (v := V.int 500) (by rfl) T.m_MOST_BAGS ⟨_, rfl⟩) (nomark _)) (pw_and1 (pt_cmpR (oEq hr) (pv 3) (pe_call (ok_opened T) (hr.mono (by decide)) (by rfl) T.m_opened T.F_opened.kp T.b_opened .nil passU (pa_cons (pv 1) (pa_cons (pv 2) pa_nil))) (nomark _))))) pe_int pe_non))) pss_nil)
      (pss_cons (ps_setComp (i := 4) (["at"] : List Str) (["before", "after"] : List Str) [1, 3] sc_Bags_price.nd rfl (Or.inl rfl) rfl ⟨rfl, by decide +kernel, by decide +kernel, by rfl, ⟨⟨rfl, by first | exact Or.inl rfl | exact Or.inr rfl, by first | exact Or.inl rfl | exact Or.inr rfl⟩, ⟨rfl, by first | exact Or.inl rfl | exact Or.inr rfl, by first | exact Or.inl rfl | exact Or.inr rfl⟩, trivial⟩⟩ (pi_range1 rfl T.n_range (pa_cons (pe_callB cLenW (by rfl) T.n_len PySem.boot_len (pa_cons (pv 1) pa_nil)) pa_nil)) (fun _ _ _ _ => ⟨(pg_name (i := 0) (by show ((["at"] : List Str) ++ (["before", "after"] : List Str)).Nodup; decide +kernel) rfl (by first | exact Or.inl rfl | exact Or.inr rfl)), (show PTs _ [_] [_] from ⟨(pt_cmpR op_ne (pe_ix oIx (pv 1) (pv 0) (fun _ _ => rfl)) (pe_ix oIx (pv 2) (pv 0) (fun _ _ => rfl)) (nomark _)), trivial⟩), (pv 0)⟩))
      (pss_cons (ps_if (PW.pt (pw_or (pt_not (ptT (pv 4) (fun _ => rfl))) (pw_or1 (pt_cmpR op_gt (pe_op oAddW (pe_ix oIx (pv 1) (pe_ix oIx (pv 4) pe_int (fun _ _ => rfl)) (fun _ _ => rfl)) (pv 2)) (pe_fld (pv 0) rfl) (nomark _))))) (pss_one (ps_ret pe_non)) pss_nil)
      (pss_one (ps_ret (pe_ifExp (pt_cmpR (oEq hr) (pv 3) (pe_call (ok_filled T) (hr.mono (by decide)) (by rfl) T.m_filled T.F_filled.kp T.b_filled .nil passU (pa_cons (pv 1) (pa_cons (pe_ix oIx (pv 4) pe_int (fun _ _ => rfl)) (pa_cons (pv 2) pa_nil)))) (nomark _)) pe_int pe_non)))))), ?_⟩
    repeat walk_at "vs"
    refine r_lenWT hf ?_
    rw [List.length_map]
    repeat walk_at "vs"
    refine r_lenWT hb ?_
    rw [List.length_map]
    repeat walk_at "vs"
    refine iteN (fun nl => ?_) (fun nl => ?_)
    · repeat walk_at "vs"
      refine r_lenWT hb ?_
      rw [List.length_map]
      repeat walk_at "vs"
      refine iteD (fun _ => ?_) (fun z => by omega)
      repeat walk_at "vs"
      refine ⟨b, os, s, rfl, hb, hl, fun q gs H1 hp1 hs1 q1 e1 => ?_⟩
      repeat walk_at "vs"
      refine r_eqTI (e1 _ _ hf) q1 ?_
      by_cases c : fs = gs
      · subst c
        rw [decide_eq_true rfl]
        repeat walk_at "vs"
        rw [← hg.one ⟨hs1, .inl ⟨rfl, hp1⟩⟩]
        exact hq H1 e1
      · rw [decide_eq_false c]
        repeat walk_at "vs"
        rw [← hg.no fun pr ⟨z1, z⟩ => by
          rcases z with ⟨_, z⟩ | ⟨_, k, hk, _, z⟩
          · exact c (sorted_eq (z.trans hp1.symm) z1 hs1)
          · have := z.length_eq
            rw [List.length_set] at this
            omega]
        exact hq H1 e1
    · have fl : fs.length = os.length := by omega
      repeat walk_at "vs"
      refine r_lenWT hb ?_
      rw [List.length_map]
      repeat walk_at "vs"
      refine ⟨_, rfl, by omega, by omega, fun acc hn _ _ _ _ => comp_range (by omega) hn (fun j ys _ => ys = ((List.range j).filter fun i => !decide (os.getD i 0 = fs.getD i 0)).map fun (i : Nat) => V.int (i : Nat)) rfl (fun _ _ _ _ _ h => h) (fun j ys H' _ h => by rw [h, List.length_map]; exact Nat.le_trans (List.length_filter_le _ _) (by simp)) ?_ ?_⟩
      · rintro j ys H2 hj e rfl Y N hY hN
        have hb2 := e _ _ hb
        have hf2 := e _ _ hf
        have i1 := atI_ints (ns := os) (k := 0 + (j : Nat)) (by omega) (by omega)
        have i2 := atI_ints (ns := fs) (k := 0 + (j : Nat)) (by omega) (by omega)
        rw [show ((0 : Int) + (j : Nat)).toNat = j by omega] at i1 i2
        repeat walk_at "vs"
        refine r_ixT hb2 i1 ?_
        repeat walk_at "vs"
        refine r_ixT hf2 i2 ?_
        repeat walk_at "vs"
        refine iteN (fun c => ?_) (fun c => ?_)
        · repeat walk_at "vs"
          refine hY _ _ Ext.rfl' ?_
          rw [List.range_succ, List.filter_append, List.map_append]
          simp only [List.filter_cons, List.filter_nil, decide_eq_false c, Bool.not_false, if_true, List.map_cons, List.map_nil]
          rw [show ((0 : Int) + (j : Nat)) = (j : Nat) by omega]
        · repeat walk_at "vs"
          refine hN _ Ext.rfl' ?_
          rw [List.range_succ, List.filter_append, List.map_append]
          simp only [List.filter_cons, List.filter_nil, decide_eq_true c, Bool.not_true, Bool.false_eq_true, if_false, List.map_nil, List.append_nil]
      rintro ys H2 e ha rfl
      rw [show ((os.length : Int).toNat) = os.length by omega] at ha
      have no1 : ¬ Goes R os s fs 1 := fun z => by
        rcases z.2 with ⟨_, z⟩ | ⟨z, _⟩
        · have := z.length_eq
          rw [List.length_append, List.length_singleton] at this
          omega
        · cases z
      cases hL : (List.range os.length).filter (fun i => !decide (os.getD i 0 = fs.getD i 0)) with
      | nil =>
        rw [hL] at ha
        repeat walk_at "vs"
        refine r_lstT (SqL.of ha) ?_
        repeat walk_at "vs"
        rw [← hg.no fun pr z => by
          rcases z.2 with ⟨e1, z2⟩ | ⟨_, k, hk, _, z2⟩
          · exact no1 ⟨z.1, .inl ⟨rfl, z2⟩⟩
          · obtain ⟨j0, hj0, hd0⟩ := some_diff hk (w := os.getD k 0 + s) (by omega) z2
            have : j0 ∈ (List.range os.length).filter (fun i => !decide (os.getD i 0 = fs.getD i 0)) := List.mem_filter.mpr ⟨List.mem_range.mpr hj0, by rw [decide_eq_false hd0]; rfl⟩
            rw [hL] at this
            cases this]
        exact hq H2 e
      | cons j rest =>
        rw [hL] at ha
        obtain ⟨jn, jp, jf⟩ := fil_first hL
        have jne : os.getD j 0 ≠ fs.getD j 0 := by
          intro z
          rw [decide_eq_true z] at jp
          cases jp
        have jeq : ∀ i, i < j → os.getD i 0 = fs.getD i 0 := fun i hi => by
          have := jf i hi
          simpa using this
        have ev : ∀ k, k < os.length → fs.Pairwise (· ≤ ·) → fs.Perm (os.set k (os.getD k 0 + s)) → os.getD j 0 = os.getD k 0 := fun k hk fsrt hpm => first_diff hos.1 fsrt hk (by omega) hpm jn jeq jne
        have hb2 := e _ _ hb
        have hf2 := e _ _ hf
        have hw2 := e _ _ hw
        have i1 := atI_ints (ns := os) (k := (j : Nat)) (by omega) (by omega)
        rw [Int.toNat_natCast] at i1
        repeat walk_at "vs"
        refine r_lstT (SqL.of ha) ?_
        repeat walk_at "vs"
        refine r_ixL ha (v := .int (j : Nat)) (atI_int (by decide) rfl) ?_
        repeat walk_at "vs"
        refine r_ixT hb2 i1 ?_
        repeat walk_at "vs"
        refine iteD (fun c => ?_) (fun c => ?_)
        · repeat walk_at "vs"
          rw [← hg.no fun pr z => by
            rcases z.2 with ⟨e1, z2⟩ | ⟨_, k, hk, hR, z2⟩
            · exact no1 ⟨z.1, .inl ⟨rfl, z2⟩⟩
            · have := ev k hk z.1 z2
              omega]
          exact hq H2 e
        repeat walk_at "vs"
        refine r_ixL ha (v := .int (j : Nat)) (atI_int (by decide) rfl) ?_
        repeat walk_at "vs"
        refine ⟨b, os, s, j, rfl, hb2, jn, hl, fun q gs H3 hp3 hs3 q3 e3 => ?_⟩
        repeat walk_at "vs"
        refine r_eqTI (e3 _ _ hf2) q3 ?_
        by_cases c2 : fs = gs
        · subst c2
          rw [decide_eq_true rfl]
          repeat walk_at "vs"
          rw [← hg.nought ⟨hs3, .inr ⟨rfl, j, jn, by omega, hp3⟩⟩]
          exact hq H3 (e.tr e3)
        · rw [decide_eq_false c2]
          repeat walk_at "vs"
          rw [← hg.no fun pr z => by
            rcases z.2 with ⟨e1, z2⟩ | ⟨_, k, hk, hR, z2⟩
            · exact no1 ⟨z.1, .inl ⟨rfl, z2⟩⟩
            · have ek := ev k hk z.1 z2
              rw [← ek] at z2
              exact c2 (sorted_eq (z2.trans ((set_same hk jn ek.symm).trans hp3.symm)) z.1 hs3)]
          exact hq H3 (e.tr e3)
def sp_way_price (a : Adr) : Sp := fun us H Q _ => ∃ (r wl yl : Addr) (sv : V) (g : Gm) (st : StG) (ws : List WsG) (as : List StG) (wvs yvs : List V) (v : V), us = [.ref r, sv, .ref wl, .ref yl] ∧ WoP a H g r ∧ g.wf ∧ st.at_ H sv ∧ g.ok 40 st ∧ H wl = some (.lst wvs) ∧ H yl = some (.lst yvs) ∧ AllR (WsG.at_ H) ws wvs ∧ AllR (StG.at_ H) as yvs ∧ ws.length = as.length ∧ ws.length ≤ 12 ∧ (∀ w ∈ ws, g.okW w) ∧ (∀ s ∈ as, g.ok 40 s) ∧ DueG g st (ws.zip as) 0 v ∧ ∀ H', Ext H H' → Q v H'
theorem ok_way_price (T : Txt K mg a) : FnOk P w K mg base (CXU P w) 4 a.f_way_price a.d_way_price ["world", "start", "wishes", "way"] (sp_way_price a) := by
  refine T.F_way_price.okU sc_way_price (fun vs H Q E h => ?_) (fun cdv A outer s H vs Q E hr h => ?_)
  · obtain ⟨r, wl, yl, sv, g, st, ws, as, wvs, yvs, v, rfl, hr0, hwf, hst, okst, hwl, hyl, hws, has, hlen, h12, okw, okas, hd, hq⟩ := h
    rfl
  · obtain ⟨r, wl, yl, sv, g, st, ws, as, wvs, yvs, v, rfl, hr0, hwf, hst, okst, hwl, hyl, hws, has, hlen, h12, okw, okas, hd, hq⟩ := h
    have zc_Bags := T.cl_Bags
    have zn_Bags_room := T.na_Bags_room
    have zc_Hire := T.cl_Hire
    have zn_Hire_whole := T.na_Hire_whole
    have zc_Line := T.cl_Line
    have zn_Line_many := T.na_Line_many
    have zc_Shelf := T.cl_Shelf
    have zn_Shelf_things := T.na_Shelf_things
    have zc_Store := T.cl_Store
    have zn_Store_many := T.na_Store_many
    have zc_Ways := T.cl_Ways
    have zn_Ways_many := T.na_Ways_many
    have zn_Ways_toll := T.na_Ways_toll
    refine ⟨_, (pss_cons (ps_set (i := 4) sc_way_price.nd rfl (by first | exact Or.inl rfl | exact Or.inr rfl) pe_int)
      (pss_cons (ps_set (i := 5) sc_way_price.nd rfl (by first | exact Or.inl rfl | exact Or.inr rfl) (pv 1))
      (pss_cons (ps_for PassesOwn.never rfl (pi_zip2 rfl T.n_zip (pa_cons (pv 2) (pa_cons (pv 3) pa_nil))) (pg_tup rfl (pgs_cons (pg_name (i := 6) sc_way_price.nd rfl (by first | exact Or.inl rfl | exact Or.inr rfl)) (pgs_cons (pg_name (i := 7) sc_way_price.nd rfl (by first | exact Or.inl rfl | exact Or.inr rfl)) pgs_nil))) (pss_cons (ps_set (i := 8) sc_way_price.nd rfl (by first | exact Or.inl rfl | exact Or.inr rfl) (pe_or2 (pe_meth (pv 0) T.cl_Bags T.me_Bags_price (ok_Bags_price T) (hr.mono (by decide)) T.b_Bags_price .nil passU (pa_cons (pv 5) (pa_cons (pv 6) (pa_cons (pv 7) pa_nil)))) (pe_or2 (pe_meth (pv 0) T.cl_Hire T.me_Hire_price (ok_Hire_price T) (hr.mono (by decide)) T.b_Hire_price .nil passU (pa_cons (pv 5) (pa_cons (pv 6) (pa_cons (pv 7) pa_nil)))) (pe_or2 (pe_meth (pv 0) T.cl_Line T.me_Line_price (ok_Line_price T) (hr.mono (by decide)) T.b_Line_price .nil passU (pa_cons (pv 5) (pa_cons (pv 6) (pa_cons (pv 7) pa_nil)))) (pe_or2 (pe_meth (pv 0) T.cl_Shelf T.me_Shelf_price (ok_Shelf_price T) (hr.mono (by decide)) T.b_Shelf_price .nil passU (pa_cons (pv 5) (pa_cons (pv 6) (pa_cons (pv 7) pa_nil)))) (pe_or2 (pe_meth (pv 0) T.cl_Store T.me_Store_price (ok_Store_price T) (hr.mono (by decide)) T.b_Store_price .nil passU (pa_cons (pv 5) (pa_cons (pv 6) (pa_cons (pv 7) pa_nil)))) (pe_meth (pv 0) T.cl_Ways T.me_Ways_price (ok_Ways_price T) (hr.mono (by decide)) T.b_Ways_price .nil passU (pa_cons (pv 5) (pa_cons (pv 6) (pa_cons (pv 7) pa_nil))))))))))
      (pss_cons (ps_if (pt_cmpR oIsN (pv 8) pe_non (nomark _)) (pss_one (ps_ret pe_non)) pss_nil)
      (pss_cons (ps_set (i := 4) sc_way_price.nd rfl (by first | exact Or.inl rfl | exact Or.inr rfl) (pe_op oAddW (pv 4) (pv 8)))
      (pss_one (ps_set (i := 5) sc_way_price.nd rfl (by first | exact Or.inl rfl | exact Or.inr rfl) (pv 7)))))))
      (pss_one (ps_ret (pv 4)))))), ?_⟩
    have l1 := hws.len
    have l2 := has.len
    repeat walk_at "vs"
    refine ⟨wl, yl, wvs, yvs, false, false, rfl, SqL.of hwl, SqL.of hyl, for_zip2 (fun i σ H2 => ∃ (b : StG) (bv : V) (t : Int) (u1 u2 u3 : Option V), σ = [some (.ref r), some sv, some (.ref wl), some (.ref yl), some (.int t), some bv, u1, u2, u3] ∧ Ext H H2 ∧ b.at_ H2 bv ∧ g.ok 40 b ∧ DueG g b ((ws.zip as).drop i) t v) (show wvs.length = yvs.length by omega) ⟨st, sv, 0, none, none, none, rfl, Ext.rfl', hst, okst, hd⟩ (fun i σ H2 _ h => by obtain ⟨_, _, _, _, _, _, _, e, _⟩ := h; exact ⟨SqL.of (e _ _ hwl), SqL.of (e _ _ hyl)⟩) ?_ ?_⟩
    · rintro i wv av σ H2 rr hx hy ⟨b, bv, t, u1, u2, u3, rfl, x2, hb2, okb, hd⟩ hr1
      obtain ⟨ww, ew, hw2⟩ := hws.get hx
      obtain ⟨aa, ea, ha0⟩ := has.get hy
      have okww := okw ww (List.mem_of_getElem? ew)
      have oka := okas aa (List.mem_of_getElem? ea)
      have e3 : Ext H2 (upd H2 rr (.tup [wv, av])) := ext_upd hr1
      have ed : (ws.zip as).drop i = (ww, aa) :: (ws.zip as).drop (i + 1) := by
        have hi : i < (ws.zip as).length := by rw [List.length_zip]; have := (List.getElem?_eq_some_iff.mp ew).1; have := (List.getElem?_eq_some_iff.mp ea).1; omega
        rw [List.drop_eq_getElem_cons hi]
        congr 1
        rw [List.getElem_zip]
        obtain ⟨_, e1⟩ := List.getElem?_eq_some_iff.mp ew
        obtain ⟨_, e2⟩ := List.getElem?_eq_some_iff.mp ea
        rw [e1, e2]
      rw [ed] at hd
      obtain ⟨xp, hpp, hd⟩ := hd
      refine r_gtup upd_same rfl ?_
      have x3 : Ext H (upd H2 rr (.tup [wv, av])) := x2.tr e3
      have hr3 := hr0.mono x3
      have hb3 := StG.mono e3 hb2
      have hw3 := WsG.mono x3 hw2
      have ha2 := StG.mono x2 ha0
      have ha3 := StG.mono x3 ha0
      generalize upd H2 rr (.tup [wv, av]) = H3 at *
      repeat walk_at "vs"
      cases g with
      | hire W =>
        obtain ⟨dw, hr4⟩ := hr3
        obtain ⟨z, rfl⟩ := okww
        obtain ⟨bz, rfl⟩ : ∃ bz, b = .i bz := by rcases okb with h | h <;> exact ⟨_, h⟩
        obtain ⟨az, rfl⟩ : ∃ az, aa = .i az := by rcases oka with h | h <;> exact ⟨_, h⟩
        obtain rfl : bv = .int bz := hb3
        obtain rfl : av = .int az := ha3
        obtain rfl : wv = .int z := hw3
        refine r_or2R (r_or2L ?_)
        repeat walk_at "vs"
        refine ⟨r, dw, W, bz, .int z, az, rfl, hr4, ?_⟩
        rw [← show xp = _ from hpp]
        have e4 : Ext H3 H3 := Ext.rfl'
        rcases hd with ⟨rfl, rfl⟩ | ⟨pr, rfl, hd⟩
        · repeat walk_at "vs"
          exact hq _ (x3.tr e4)
        · repeat walk_at "vs"
          exact ⟨_, _, _, _, _, _, rfl, x3.tr e4, StG.mono e4 (StG.mono e3 ha2), oka, hd⟩
      | line m =>
        obtain ⟨dw, hr4⟩ := hr3
        obtain ⟨z, rfl⟩ := okww
        obtain ⟨bs, rfl, lb⟩ := okb
        obtain ⟨as', rfl, la⟩ := oka
        obtain ⟨bp, rfl, hbp⟩ := hb3
        obtain ⟨ap, rfl, hap⟩ := ha3
        obtain rfl : wv = .int z := hw3
        have := hwf.2
        refine r_or2R (r_or2R (r_or2L ?_))
        repeat walk_at "vs"
        refine ⟨r, bp, ap, bs, as', z, rfl, hbp, hap, by omega, by omega, fun H4 e4 => ?_⟩
        rw [← show xp = _ from hpp]
        have oka : (Gm.line m).ok 40 (.l as') := ⟨_, rfl, la⟩
        rcases hd with ⟨rfl, rfl⟩ | ⟨pr, rfl, hd⟩
        · repeat walk_at "vs"
          exact hq _ (x3.tr e4)
        · repeat walk_at "vs"
          exact ⟨_, _, _, _, _, _, rfl, x3.tr e4, StG.mono e4 (StG.mono e3 ha2), oka, hd⟩
      | shelf ts =>
        obtain ⟨dw, fv, hr4⟩ := hr3
        obtain ⟨z, rfl, hz⟩ := okww
        obtain ⟨bs, rfl, pb⟩ := okb
        obtain ⟨as', rfl, pa⟩ := oka
        obtain ⟨bp, rfl, hbp⟩ := hb3
        obtain ⟨ap, rfl, hap⟩ := ha3
        obtain rfl : wv = .str z := hw3
        have l4 := hwf.2.1
        have lb := pb.length_eq
        have la := pa.length_eq
        refine r_or2R (r_or2R (r_or2R (r_or2L ?_)))
        repeat walk_at "vs"
        refine ⟨r, bp, ap, bs, as', z, rfl, hbp, hap, by omega, by omega, fun x hx => pa.mem_iff.mpr (pb.mem_iff.mp hx), pa.mem_iff.mpr hz, fun H4 e4 => ?_⟩
        rw [← show xp = _ from hpp]
        have oka : (Gm.shelf ts).ok 40 (.t as') := ⟨_, rfl, pa⟩
        rcases hd with ⟨rfl, rfl⟩ | ⟨pr, rfl, hd⟩
        · repeat walk_at "vs"
          exact hq _ (x3.tr e4)
        · repeat walk_at "vs"
          exact ⟨_, _, _, _, _, _, rfl, x3.tr e4, StG.mono e4 (StG.mono e3 ha2), oka, hd⟩
      | wys m tl =>
        obtain ⟨dw, hr4⟩ := hr3
        obtain ⟨z, rfl, lz⟩ := okww
        obtain ⟨bz, rfl, _⟩ := okb
        obtain ⟨az, rfl, a0, a1⟩ := oka
        obtain rfl : bv = .int bz := hb3
        obtain rfl : av = .int az := ha3
        obtain ⟨wp, rfl, hwp⟩ := hw3
        refine r_or2R (r_or2R (r_or2R (r_or2R (r_or2R ?_))))
        repeat walk_at "vs"
        refine ⟨r, dw, wp, z, _, bz, az, tl, rfl, hr4, hwp, a0, by omega, ?_⟩
        rw [← show xp = _ from hpp]
        have e4 : Ext H3 H3 := Ext.rfl'
        have oka : (Gm.wys m tl).ok 40 (.i az) := ⟨_, rfl, a0, a1⟩
        rcases hd with ⟨rfl, rfl⟩ | ⟨pr, rfl, hd⟩
        · repeat walk_at "vs"
          exact hq _ (x3.tr e4)
        · repeat walk_at "vs"
          exact ⟨_, _, _, _, _, _, rfl, x3.tr e4, StG.mono e4 (StG.mono e3 ha2), oka, hd⟩
      | store m =>
        obtain ⟨dw, hr4⟩ := hr3
        obtain ⟨z, rfl, hz⟩ := okww
        obtain ⟨bs, rfl, lb, nb⟩ := okb
        obtain ⟨as', rfl, la, na⟩ := oka
        obtain ⟨bp, rfl, hbp⟩ := hb3
        obtain ⟨ap, rfl, hap⟩ := ha3
        obtain rfl : wv = .str z := hw3
        have := hwf.2
        refine r_or2R (r_or2R (r_or2R (r_or2R (r_or2L ?_))))
        repeat walk_at "vs"
        refine ⟨r, bp, ap, bs, as', z, rfl, hbp, hap, by omega, fun H4 e4 => ?_⟩
        rw [← show xp = _ from hpp]
        have oka : (Gm.store m).ok 40 (.t as') := ⟨_, rfl, la, na⟩
        rcases hd with ⟨rfl, rfl⟩ | ⟨pr, rfl, hd⟩
        · repeat walk_at "vs"
          exact hq _ (x3.tr e4)
        · repeat walk_at "vs"
          exact ⟨_, _, _, _, _, _, rfl, x3.tr e4, StG.mono e4 (StG.mono e3 ha2), oka, hd⟩
      | bags R =>
        obtain ⟨dw, hr4⟩ := hr3
        obtain ⟨z, rfl, z1, z2⟩ := okww
        obtain ⟨bs, rfl, hL, lb⟩ := okb
        obtain ⟨as', rfl, hLa, la⟩ := oka
        obtain ⟨bp, rfl, hbp⟩ := hb3
        obtain ⟨ap, rfl, hap⟩ := ha3
        obtain rfl : wv = .int z := hw3
        refine r_or2L ?_
        repeat walk_at "vs"
        refine ⟨r, dw, bp, ap, bs, as', R, z, xp, rfl, hr4, hbp, hap, hL, z1, by omega, hpp, fun H4 e4 => ?_⟩
        have oka : (Gm.bags R).ok 40 (.l as') := ⟨_, rfl, hLa, la⟩
        rcases hd with ⟨rfl, rfl⟩ | ⟨pr, rfl, hd⟩
        · repeat walk_at "vs"
          exact hq _ (x3.tr e4)
        · repeat walk_at "vs"
          exact ⟨_, _, _, _, _, _, rfl, x3.tr e4, StG.mono e4 (StG.mono e3 ha2), oka, hd⟩
    · rintro σ H2 ⟨b, bv, t, u1, u2, u3, rfl, x2, hb2, okb, hd⟩
      rw [List.drop_of_length_le (by rw [List.length_zip]; omega)] at hd
      obtain rfl : v = .int t := hd
      repeat walk_at "vs"
      exact hq H2 x2
def sp_Bags_init (a : Adr) : Sp := fun vs H Q _ => ∃ x dx v, vs = [.ref x, v] ∧ H x = some (.ins a.c_Bags dx []) ∧ ∀ H', H' x = some (.ins a.c_Bags dx [("room", v)]) → But x H H' → Q .non H'
theorem ok_Bags_init (T : Txt K mg a) : FnOk P w K mg base (CXU P w) 1 a.f_Bags_init a.d_Bags_init ["self", "room"] (sp_Bags_init a) := by
  refine T.F_Bags_init.okU sc_Bags_init (fun vs H Q E h => ?_) (fun cdv A outer s H vs Q E hr h => ?_)
  · obtain ⟨x, dx, v, rfl, hx, hq⟩ := h
    rfl
  · obtain ⟨x, dx, v, rfl, hx, hq⟩ := h
    have zc_Bags := T.cl_Bags
    have zn_Bags_room := T.na_Bags_room
    have zc_Hire := T.cl_Hire
    have zn_Hire_whole := T.na_Hire_whole
    have zc_Line := T.cl_Line
    have zn_Line_many := T.na_Line_many
    have zc_Shelf := T.cl_Shelf
    have zn_Shelf_things := T.na_Shelf_things
    have zc_Store := T.cl_Store
    have zn_Store_many := T.na_Store_many
    have zc_Ways := T.cl_Ways
    have zn_Ways_many := T.na_Ways_many
    have zn_Ways_toll := T.na_Ways_toll
    refine ⟨_, (pss_one (ps_fld (pv 0) (pv 1) rfl)), ?_⟩
    repeat walk_at "vs"
    refine r_sat hx T.cl_Bags T.na_Bags_room (lt1000 rfl) fun H' h1 h2 => ?_
    exact hq H' h1 h2
def sp_Store_init (a : Adr) : Sp := fun vs H Q _ => ∃ x dx v, vs = [.ref x, v] ∧ H x = some (.ins a.c_Store dx []) ∧ ∀ H', H' x = some (.ins a.c_Store dx [("many", v)]) → But x H H' → Q .non H'
theorem ok_Store_init (T : Txt K mg a) : FnOk P w K mg base (CXU P w) 1 a.f_Store_init a.d_Store_init ["self", "many"] (sp_Store_init a) := by
  refine T.F_Store_init.okU sc_Store_init (fun vs H Q E h => ?_) (fun cdv A outer s H vs Q E hr h => ?_)
  · obtain ⟨x, dx, v, rfl, hx, hq⟩ := h
    rfl
  · obtain ⟨x, dx, v, rfl, hx, hq⟩ := h
    have zc_Bags := T.cl_Bags
    have zn_Bags_room := T.na_Bags_room
    have zc_Hire := T.cl_Hire
    have zn_Hire_whole := T.na_Hire_whole
    have zc_Line := T.cl_Line
    have zn_Line_many := T.na_Line_many
    have zc_Shelf := T.cl_Shelf
    have zn_Shelf_things := T.na_Shelf_things
    have zc_Store := T.cl_Store
    have zn_Store_many := T.na_Store_many
    have zc_Ways := T.cl_Ways
    have zn_Ways_many := T.na_Ways_many
    have zn_Ways_toll := T.na_Ways_toll
    refine ⟨_, (pss_one (ps_fld (pv 0) (pv 1) rfl)), ?_⟩
    repeat walk_at "vs"
    refine r_sat hx T.cl_Store T.na_Store_many (lt1000 rfl) fun H' h1 h2 => ?_
    exact hq H' h1 h2
def sp_Ways_init (a : Adr) : Sp := fun vs H Q _ => ∃ x dx v u, vs = [.ref x, v, u] ∧ H x = some (.ins a.c_Ways dx []) ∧ ∀ H', H' x = some (.ins a.c_Ways dx [("many", v), ("toll", u)]) → But x H H' → Q .non H'
theorem ok_Ways_init (T : Txt K mg a) : FnOk P w K mg base (CXU P w) 1 a.f_Ways_init a.d_Ways_init ["self", "many", "toll"] (sp_Ways_init a) := by
  refine T.F_Ways_init.okU sc_Ways_init (fun vs H Q E h => ?_) (fun cdv A outer s H vs Q E hr h => ?_)
  · obtain ⟨x, dx, v, u, rfl, hx, hq⟩ := h
    rfl
  · obtain ⟨x, dx, v, u, rfl, hx, hq⟩ := h
    have zc_Bags := T.cl_Bags
    have zn_Bags_room := T.na_Bags_room
    have zc_Hire := T.cl_Hire
    have zn_Hire_whole := T.na_Hire_whole
    have zc_Line := T.cl_Line
    have zn_Line_many := T.na_Line_many
    have zc_Shelf := T.cl_Shelf
    have zn_Shelf_things := T.na_Shelf_things
    have zc_Store := T.cl_Store
    have zn_Store_many := T.na_Store_many
    have zc_Ways := T.cl_Ways
    have zn_Ways_many := T.na_Ways_many
    have zn_Ways_toll := T.na_Ways_toll
    refine ⟨_, (pss_cons (ps_fld (pv 0) (pv 1) rfl)
      (pss_one (ps_fld (pv 0) (pv 2) rfl))), ?_⟩
    repeat walk_at "vs"
    refine r_sat hx T.cl_Ways T.na_Ways_many (lt1000 rfl) fun H1 h1 b1 => ?_
    repeat walk_at "vs"
    refine r_sat h1 T.cl_Ways T.na_Ways_toll (lt1000 rfl) fun H2 h2 b2 => ?_
    exact hq H2 h2 (b1.tr b2)
def sp_Shelf_init (a : Adr) : Sp := fun vs H Q _ => ∃ x dx v, vs = [.ref x, v] ∧ H x = some (.ins a.c_Shelf dx []) ∧ ∀ H', H' x = some (.ins a.c_Shelf dx [("things", v)]) → But x H H' → Q .non H'
theorem ok_Shelf_init (T : Txt K mg a) : FnOk P w K mg base (CXU P w) 1 a.f_Shelf_init a.d_Shelf_init ["self", "things"] (sp_Shelf_init a) := by
  refine T.F_Shelf_init.okU sc_Shelf_init (fun vs H Q E h => ?_) (fun cdv A outer s H vs Q E hr h => ?_)
  · obtain ⟨x, dx, v, rfl, hx, hq⟩ := h
    rfl
  · obtain ⟨x, dx, v, rfl, hx, hq⟩ := h
    have zc_Bags := T.cl_Bags
    have zn_Bags_room := T.na_Bags_room
    have zc_Hire := T.cl_Hire
    have zn_Hire_whole := T.na_Hire_whole
    have zc_Line := T.cl_Line
    have zn_Line_many := T.na_Line_many
    have zc_Shelf := T.cl_Shelf
    have zn_Shelf_things := T.na_Shelf_things
    have zc_Store := T.cl_Store
    have zn_Store_many := T.na_Store_many
    have zc_Ways := T.cl_Ways
    have zn_Ways_many := T.na_Ways_many
    have zn_Ways_toll := T.na_Ways_toll
    refine ⟨_, (pss_one (ps_fld (pv 0) (pv 1) rfl)), ?_⟩
    repeat walk_at "vs"
    refine r_sat hx T.cl_Shelf T.na_Shelf_things (lt1000 rfl) fun H' h1 h2 => ?_
    exact hq H' h1 h2
def sp_Line_init (a : Adr) : Sp := fun vs H Q _ => ∃ x dx v, vs = [.ref x, v] ∧ H x = some (.ins a.c_Line dx []) ∧ ∀ H', H' x = some (.ins a.c_Line dx [("many", v)]) → But x H H' → Q .non H'
theorem ok_Line_init (T : Txt K mg a) : FnOk P w K mg base (CXU P w) 1 a.f_Line_init a.d_Line_init ["self", "many"] (sp_Line_init a) := by
  refine T.F_Line_init.okU sc_Line_init (fun vs H Q E h => ?_) (fun cdv A outer s H vs Q E hr h => ?_)
  · obtain ⟨x, dx, v, rfl, hx, hq⟩ := h
    rfl
  · obtain ⟨x, dx, v, rfl, hx, hq⟩ := h
    have zc_Bags := T.cl_Bags
    have zn_Bags_room := T.na_Bags_room
    have zc_Hire := T.cl_Hire
    have zn_Hire_whole := T.na_Hire_whole
    have zc_Line := T.cl_Line
    have zn_Line_many := T.na_Line_many
    have zc_Shelf := T.cl_Shelf
    have zn_Shelf_things := T.na_Shelf_things
    have zc_Store := T.cl_Store
    have zn_Store_many := T.na_Store_many
    have zc_Ways := T.cl_Ways
    have zn_Ways_many := T.na_Ways_many
    have zn_Ways_toll := T.na_Ways_toll
    refine ⟨_, (pss_one (ps_fld (pv 0) (pv 1) rfl)), ?_⟩
    repeat walk_at "vs"
    refine r_sat hx T.cl_Line T.na_Line_many (lt1000 rfl) fun H' h1 h2 => ?_
    exact hq H' h1 h2
def sp_Hire_init (a : Adr) : Sp := fun vs H Q _ => ∃ x dx v, vs = [.ref x, v] ∧ H x = some (.ins a.c_Hire dx []) ∧ ∀ H', H' x = some (.ins a.c_Hire dx [("whole", v)]) → But x H H' → Q .non H'
theorem ok_Hire_init (T : Txt K mg a) : FnOk P w K mg base (CXU P w) 1 a.f_Hire_init a.d_Hire_init ["self", "whole"] (sp_Hire_init a) := by
  refine T.F_Hire_init.okU sc_Hire_init (fun vs H Q E h => ?_) (fun cdv A outer s H vs Q E hr h => ?_)
  · obtain ⟨x, dx, v, rfl, hx, hq⟩ := h
    rfl
  · obtain ⟨x, dx, v, rfl, hx, hq⟩ := h
    have zc_Bags := T.cl_Bags
    have zn_Bags_room := T.na_Bags_room
    have zc_Hire := T.cl_Hire
    have zn_Hire_whole := T.na_Hire_whole
    have zc_Line := T.cl_Line
    have zn_Line_many := T.na_Line_many
    have zc_Shelf := T.cl_Shelf
    have zn_Shelf_things := T.na_Shelf_things
    have zc_Store := T.cl_Store
    have zn_Store_many := T.na_Store_many
    have zc_Ways := T.cl_Ways
    have zn_Ways_many := T.na_Ways_many
    have zn_Ways_toll := T.na_Ways_toll
    refine ⟨_, (pss_one (ps_fld (pv 0) (pv 1) rfl)), ?_⟩
    repeat walk_at "vs"
    refine r_sat hx T.cl_Hire T.na_Hire_whole (lt1000 rfl) fun H' h1 h2 => ?_
    exact hq H' h1 h2
def sp_law_world (a : Adr) : Sp := fun us H Q _ => ∃ (gl : Addr) (g : Gm) (st : StG) (ws : List WsG), us = [.ref gl] ∧ GameV H gl g st ws ∧ ∀ r H', WoP a H' g r → Ext H H' → Q (.ref r) H'
theorem ok_law_world (T : Txt K mg a) : FnOk P w K mg base (CXU P w) 3 a.f_law_world a.d_law_world ["_law_game_here"] (sp_law_world a) := by
  refine T.F_law_world.okU sc_law_world (fun vs H Q E h => ?_) (fun cdv A outer s H vs Q E hr h => ?_)
  · obtain ⟨gl, g, st, ws, rfl, ⟨gv, sv, wl, wvs, hg, hpv, _⟩, hq⟩ := h
    rfl
  · obtain ⟨gl, g, st, ws, rfl, ⟨gv, sv, wl, wvs, hg, hpv, _⟩, hq⟩ := h
    refine ⟨_, (pss_cons (ps_if (pt_cmpR (oEq hr) (pe_ix oIx (pv 0) pe_int (fun _ _ => rfl)) pe_int (nomark _)) (pss_one (ps_ret (pe_make T.mk_Hire (ok_Hire_init T) (hr.mono (by decide)) (by rfl) T.m_Hire T.b_Hire_init .nil passU (pa_cons (pe_ix oIx (pv 0) pe_int (fun _ _ => rfl)) pa_nil)))) pss_nil)
      (pss_cons (ps_if (pt_cmpR (oEq hr) (pe_ix oIx (pv 0) pe_int (fun _ _ => rfl)) pe_int (nomark _)) (pss_one (ps_ret (pe_make T.mk_Line (ok_Line_init T) (hr.mono (by decide)) (by rfl) T.m_Line T.b_Line_init .nil passU (pa_cons (pe_ix oIx (pv 0) pe_int (fun _ _ => rfl)) pa_nil)))) pss_nil)
      (pss_cons (ps_if (pt_cmpR (oEq hr) (pe_ix oIx (pv 0) pe_int (fun _ _ => rfl)) pe_int (nomark _)) (pss_one (ps_ret (pe_make T.mk_Shelf (ok_Shelf_init T) (hr.mono (by decide)) (by rfl) T.m_Shelf T.b_Shelf_init .nil passU (pa_cons (pe_ix oIx (pv 0) pe_int (fun _ _ => rfl)) pa_nil)))) pss_nil)
      (pss_cons (ps_if (pt_cmpR (oEq hr) (pe_ix oIx (pv 0) pe_int (fun _ _ => rfl)) pe_int (nomark _)) (pss_one (ps_ret (pe_make T.mk_Ways (ok_Ways_init T) (hr.mono (by decide)) (by rfl) T.m_Ways T.b_Ways_init .nil passU (pa_cons (pe_ix oIx (pe_ix oIx (pv 0) pe_int (fun _ _ => rfl)) pe_int (fun _ _ => rfl)) (pa_cons (pe_ix oIx (pe_ix oIx (pv 0) pe_int (fun _ _ => rfl)) pe_int (fun _ _ => rfl)) pa_nil))))) pss_nil)
      (pss_cons (ps_if (pt_cmpR (oEq hr) (pe_ix oIx (pv 0) pe_int (fun _ _ => rfl)) pe_int (nomark _)) (pss_one (ps_ret (pe_make T.mk_Store (ok_Store_init T) (hr.mono (by decide)) (by rfl) T.m_Store T.b_Store_init .nil passU (pa_cons (pe_ix oIx (pv 0) pe_int (fun _ _ => rfl)) pa_nil)))) pss_nil)
      (pss_one (ps_ret (pe_make T.mk_Bags (ok_Bags_init T) (hr.mono (by decide)) (by rfl) T.m_Bags T.b_Bags_init .nil passU (pa_cons (pe_ix oIx (pv 0) pe_int (fun _ _ => rfl)) pa_nil))))))))), ?_⟩
    cases g with
    | hire W =>
      have hg' : H gl = some (.lst [.int 0, gv, sv, .ref wl]) := hg
      obtain rfl : gv = .int W := hpv
      repeat walk_at "vs"
      refine r_ixL hg' rfl ?_
      repeat walk_at "vs"
      refine r_ixL hg' rfl ?_
      repeat walk_at "vs"
      intro r dr k1 k2 k3
      refine ⟨r, dr, _, rfl, upd_same, fun H2 hr2 b2 => ⟨rfl, ?_⟩⟩
      have x2 : Ext H H2 := fun b o h => b2 b o (ne_of_none h k1) (by rw [upd_ne (ne_of_none h k1), upd_ne (ne_of_none h k2)]; exact h)
      repeat walk_at "vs"
      exact hq r H2 ⟨dr, hr2⟩ x2
    | line m =>
      have hg' : H gl = some (.lst [.int 1, gv, sv, .ref wl]) := hg
      obtain rfl : gv = .int (m : Nat) := hpv
      repeat walk_at "vs"
      refine r_ixL hg' rfl ?_
      repeat walk_at "vs"
      refine r_ixL hg' rfl ?_
      repeat walk_at "vs"
      refine r_ixL hg' rfl ?_
      repeat walk_at "vs"
      intro r dr k1 k2 k3
      refine ⟨r, dr, _, rfl, upd_same, fun H2 hr2 b2 => ⟨rfl, ?_⟩⟩
      have x2 : Ext H H2 := fun b o h => b2 b o (ne_of_none h k1) (by rw [upd_ne (ne_of_none h k1), upd_ne (ne_of_none h k2)]; exact h)
      repeat walk_at "vs"
      exact hq r H2 ⟨dr, hr2⟩ x2
    | shelf ts =>
      have hg' : H gl = some (.lst [.int 2, gv, sv, .ref wl]) := hg
      obtain ⟨tp, rfl, _⟩ := hpv
      repeat walk_at "vs"
      refine r_ixL hg' rfl ?_
      repeat walk_at "vs"
      refine r_ixL hg' rfl ?_
      repeat walk_at "vs"
      refine r_ixL hg' rfl ?_
      repeat walk_at "vs"
      refine r_ixL hg' rfl ?_
      repeat walk_at "vs"
      intro r dr k1 k2 k3
      refine ⟨r, dr, _, rfl, upd_same, fun H2 hr2 b2 => ⟨rfl, ?_⟩⟩
      have x2 : Ext H H2 := fun b o h => b2 b o (ne_of_none h k1) (by rw [upd_ne (ne_of_none h k1), upd_ne (ne_of_none h k2)]; exact h)
      repeat walk_at "vs"
      exact hq r H2 ⟨dr, _, hr2⟩ x2
    | wys m t =>
      have hg' : H gl = some (.lst [.int 3, gv, sv, .ref wl]) := hg
      obtain ⟨tp, rfl, htp⟩ := hpv
      repeat walk_at "vs"
      refine r_ixL hg' rfl ?_
      repeat walk_at "vs"
      refine r_ixL hg' rfl ?_
      repeat walk_at "vs"
      refine r_ixL hg' rfl ?_
      repeat walk_at "vs"
      refine r_ixL hg' rfl ?_
      repeat walk_at "vs"
      refine r_ixL hg' rfl ?_
      repeat walk_at "vs"
      refine r_ixT htp rfl ?_
      repeat walk_at "vs"
      refine r_ixL hg' rfl ?_
      repeat walk_at "vs"
      refine r_ixT htp rfl ?_
      repeat walk_at "vs"
      intro r dr k1 k2 k3
      refine ⟨r, dr, _, _, rfl, upd_same, fun H2 hr2 b2 => ⟨rfl, ?_⟩⟩
      have x2 : Ext H H2 := fun b o h => b2 b o (ne_of_none h k1) (by rw [upd_ne (ne_of_none h k1), upd_ne (ne_of_none h k2)]; exact h)
      repeat walk_at "vs"
      exact hq r H2 ⟨dr, hr2⟩ x2
    | store m =>
      have hg' : H gl = some (.lst [.int 4, gv, sv, .ref wl]) := hg
      obtain rfl : gv = .int (m : Nat) := hpv
      repeat walk_at "vs"
      refine r_ixL hg' rfl ?_
      repeat walk_at "vs"
      refine r_ixL hg' rfl ?_
      repeat walk_at "vs"
      refine r_ixL hg' rfl ?_
      repeat walk_at "vs"
      refine r_ixL hg' rfl ?_
      repeat walk_at "vs"
      refine r_ixL hg' rfl ?_
      repeat walk_at "vs"
      refine r_ixL hg' rfl ?_
      repeat walk_at "vs"
      intro r dr k1 k2 k3
      refine ⟨r, dr, _, rfl, upd_same, fun H2 hr2 b2 => ⟨rfl, ?_⟩⟩
      have x2 : Ext H H2 := fun b o h => b2 b o (ne_of_none h k1) (by rw [upd_ne (ne_of_none h k1), upd_ne (ne_of_none h k2)]; exact h)
      repeat walk_at "vs"
      exact hq r H2 ⟨dr, hr2⟩ x2
    | bags R =>
      have hg' : H gl = some (.lst [.int 5, gv, sv, .ref wl]) := hg
      obtain rfl : gv = .int R := hpv
      repeat walk_at "vs"
      refine r_ixL hg' rfl ?_
      repeat walk_at "vs"
      refine r_ixL hg' rfl ?_
      repeat walk_at "vs"
      refine r_ixL hg' rfl ?_
      repeat walk_at "vs"
      refine r_ixL hg' rfl ?_
      repeat walk_at "vs"
      refine r_ixL hg' rfl ?_
      repeat walk_at "vs"
      refine r_ixL hg' rfl ?_
      repeat walk_at "vs"
      intro r dr k1 k2 k3
      refine ⟨r, dr, _, rfl, upd_same, fun H2 hr2 b2 => ⟨rfl, ?_⟩⟩
      have x2 : Ext H H2 := fun b o h => b2 b o (ne_of_none h k1) (by rw [upd_ne (ne_of_none h k1), upd_ne (ne_of_none h k2)]; exact h)
      repeat walk_at "vs"
      exact hq r H2 ⟨dr, hr2⟩ x2
def zfive : List Str := [Str.ofString "za", Str.ofString "zb", Str.ofString "zc", Str.ofString "zd", Str.ofString "ze"]
theorem zfive_ok : (∀ s ∈ zfive, nmS s = true) ∧ zfive.Nodup := by decide
theorem zfive_few (z : Str) : 4 ≤ (zfive.filter fun t => !decide (t = z)).length := by
  have e : zfive.filter (fun t => !decide (t = z)) = zfive.erase z := by
    rw [zfive_ok.2.erase_eq_filter]
    exact List.filter_congr fun t _ => by simp [bne, BEq.beq]
  rw [e, List.length_erase]
  split <;> simp [zfive]
theorem Lds.two {R : Int} {ns : List Int} (h : Lds R ns) (r1 : 1 ≤ R) : Lds R (ns ++ [R] ++ [R]) := by
  have one : ∀ {ms : List Int}, Lds R ms → Lds R (ms ++ [R]) := fun {ms} h => ⟨List.pairwise_append.mpr ⟨h.1, List.pairwise_singleton _ _, fun x hx y hy => by rw [List.mem_singleton.mp hy]; exact (h.2 x hx).2⟩, fun x hx => by
    rcases List.mem_append.mp hx with q | q
    · exact h.2 x q
    · rw [List.mem_singleton.mp q]; omega⟩
  exact one (one h)
def sp_law_strayed : Sp := fun us H Q _ => ∃ (gl : Addr) (g : Gm) (st : StG) (ws : List WsG) (b : StG) (w : WsG) (bv wv : V) (n : Nat) (k : Int), us = [.ref gl, bv, wv, .int k] ∧ GameV H gl g st ws ∧ g.wf ∧ b.at_ H bv ∧ w.at_ H wv ∧ g.ok n b ∧ g.okW w ∧ n ≤ 40 ∧ ∀ v s H', StG.at_ H' s v → g.ok (n + 2) s → Ext H H' → Q v H'
theorem ok_law_strayed (T : Txt K mg a) : FnOk P w K mg base (CXU P w) 1 a.f_law_strayed a.d_law_strayed ["_law_game_here", "_law_before", "_law_wish", "_law_number"] (sp_law_strayed) := by
  refine T.F_law_strayed.okU sc_law_strayed (fun vs H Q E h => ?_) (fun cdv A outer s H vs Q E hr h => ?_)
  · obtain ⟨gl, g, st, ws, b, w, bv, wv, n, k, rfl, hG, hwf, hb, hw, okb, okw, n40, hq⟩ := h
    rfl
  · obtain ⟨gl, g, st, ws, b, w, bv, wv, n, k, rfl, hG, hwf, hb, hw, okb, okw, n40, hq⟩ := h
    refine ⟨_, (pss_cons (ps_if (pt_cmpR (oEq hr) (pe_ix oIx (pv 0) pe_int (fun _ _ => rfl)) pe_int (nomark _)) (pss_one (ps_ret pe_int)) pss_nil)
      (pss_cons (ps_if (pt_cmpR (oEq hr) (pe_ix oIx (pv 0) pe_int (fun _ _ => rfl)) pe_int (nomark _)) (pss_cons (ps_set (i := 4) sc_law_strayed.nd rfl (by first | exact Or.inl rfl | exact Or.inr rfl) (pe_op op_sub (pe_op op_sub (pv 2) pe_int) (pe_op op_mod (pv 3) pe_int)))
      (pss_cons (ps_if (pt_cmpR op_lt (pv 2) pe_int (nomark _)) (pss_one (ps_set (i := 4) sc_law_strayed.nd rfl (by first | exact Or.inl rfl | exact Or.inr rfl) (pe_op oAddW (pe_op oAddW (pv 2) pe_int) (pe_op op_mod (pv 3) pe_int)))) pss_nil)
      (pss_one (ps_ret (pe_callTy cTuple (by rfl) T.n_tuple PyProof.Rows.boot_tuple (pa_cons (pe_comp (["_law_j"] : List Str) (["_law_begin"] : List Str) [4] rfl ⟨rfl, by decide +kernel, by decide +kernel, by rfl, ⟨⟨rfl, by first | exact Or.inl rfl | exact Or.inr rfl, by first | exact Or.inl rfl | exact Or.inr rfl⟩, trivial⟩⟩ (pi_range1 rfl T.n_range (pa_cons (pe_ix oIx (pv 0) pe_int (fun _ _ => rfl)) pa_nil)) (fun _ _ _ _ => ⟨(pg_name (i := 0) (by show ((["_law_j"] : List Str) ++ (["_law_begin"] : List Str)).Nodup; decide +kernel) rfl (by first | exact Or.inl rfl | exact Or.inr rfl)), (show PTs _ [] [] from trivial), (pe_op oAddW (pv 1) (pv 0))⟩)) pa_nil)))))) pss_nil)
      (pss_cons (ps_if (pt_cmpR (oEq hr) (pe_ix oIx (pv 0) pe_int (fun _ _ => rfl)) pe_int (nomark _)) (pss_one (ps_ret (pe_callTy cTuple (by rfl) T.n_tuple PyProof.Rows.boot_tuple (pa_cons (pe_slice oSl (pe_comp (["_law_name"] : List Str) (["_law_wish"] : List Str) [2] rfl ⟨rfl, by decide +kernel, by decide +kernel, by rfl, ⟨⟨rfl, by first | exact Or.inl rfl | exact Or.inr rfl, by first | exact Or.inl rfl | exact Or.inr rfl⟩, trivial⟩⟩ (pi_list (pe_lst (pa_cons pe_str (pa_cons pe_str (pa_cons pe_str (pa_cons pe_str (pa_cons pe_str pa_nil))))))) (fun _ _ _ _ => ⟨(pg_name (i := 0) (by show ((["_law_name"] : List Str) ++ (["_law_wish"] : List Str)).Nodup; decide +kernel) rfl (by first | exact Or.inl rfl | exact Or.inr rfl)), (show PTs _ [_] [_] from ⟨(pt_cmpR op_ne (pv 0) (pv 1) (nomark _)), trivial⟩), (pv 0)⟩)) po_none (po_some (pe_ix oIx (pv 0) pe_int (fun _ _ => rfl)))) pa_nil)))) pss_nil)
      (pss_cons (ps_if (pt_cmpR (oEq hr) (pe_ix oIx (pv 0) pe_int (fun _ _ => rfl)) pe_int (nomark _)) (pss_one (ps_ret (pe_op oAddW (pe_op oAddW (pv 1) (pe_tup (pa_cons (pe_ix oIx (pv 0) pe_int (fun _ _ => rfl)) pa_nil))) (pe_tup (pa_cons (pe_ix oIx (pv 0) pe_int (fun _ _ => rfl)) pa_nil))))) pss_nil)
      (pss_one (ps_ret (pv 1))))))), ?_⟩
    obtain ⟨gv, sv, wl, wvs, hg, hpv, _⟩ := hG
    cases g with
    | hire W =>
      have hg' : H gl = some (.lst [.int 0, gv, sv, .ref wl]) := hg
      repeat walk_at "vs"
      refine r_ixL hg' rfl ?_
      repeat walk_at "vs"
      exact hq _ (.i 0) H rfl (.inl rfl) Ext.rfl'
    | line m =>
      have hg' : H gl = some (.lst [.int 1, gv, sv, .ref wl]) := hg
      obtain rfl : gv = .int (m : Nat) := hpv
      obtain ⟨m1, m3⟩ := hwf
      obtain ⟨z, rfl⟩ := okw
      obtain rfl : wv = .int z := hw
      repeat walk_at "vs"
      refine r_ixL hg' rfl ?_
      repeat walk_at "vs"
      refine r_ixL hg' rfl ?_
      repeat walk_at "vs"
      refine iteD (fun c => ?_) (fun c => ?_)
      · repeat walk_at "vs"
        refine r_ixL hg' rfl ?_
        repeat walk_at "vs"
        refine ⟨_, rfl, by omega, by omega, fun acc hn _ _ _ _ => comp_someR (fun _ => True) (by omega) hn (fun i H3 Y hi e hY => ?_) fun xs H2 lx _ e2 ha => ?_⟩
        · repeat walk_at "vs"
          exact hY _ _ trivial Ext.rfl'
        · repeat walk_at "vs"
          refine r_tupleL ha fun l3 H3 n3 q3 e3 => ?_
          exact hq _ (.l xs) H3 ⟨l3, rfl, q3⟩ ⟨xs, rfl, by omega⟩ (e2.tr e3)
      · repeat walk_at "vs"
        refine r_ixL hg' rfl ?_
        repeat walk_at "vs"
        refine ⟨_, rfl, by omega, by omega, fun acc hn _ _ _ _ => comp_someR (fun _ => True) (by omega) hn (fun i H3 Y hi e hY => ?_) fun xs H2 lx _ e2 ha => ?_⟩
        · repeat walk_at "vs"
          exact hY _ _ trivial Ext.rfl'
        · repeat walk_at "vs"
          refine r_tupleL ha fun l3 H3 n3 q3 e3 => ?_
          exact hq _ (.l xs) H3 ⟨l3, rfl, q3⟩ ⟨xs, rfl, by omega⟩ (e2.tr e3)
    | shelf ts =>
      have hg' : H gl = some (.lst [.int 2, gv, sv, .ref wl]) := hg
      repeat walk_at "vs"
      refine r_ixL hg' rfl ?_
      repeat walk_at "vs"
      refine r_ixL hg' rfl ?_
      repeat walk_at "vs"
      refine r_ixL hg' rfl ?_
      repeat walk_at "vs"
      refine r_ixL hg' rfl ?_
      repeat walk_at "vs"
      exact hq _ b H hb (Gm.ok_mono okb (by omega)) Ext.rfl'
    | wys m t =>
      have hg' : H gl = some (.lst [.int 3, gv, sv, .ref wl]) := hg
      repeat walk_at "vs"
      refine r_ixL hg' rfl ?_
      repeat walk_at "vs"
      refine r_ixL hg' rfl ?_
      repeat walk_at "vs"
      refine r_ixL hg' rfl ?_
      repeat walk_at "vs"
      refine r_ixL hg' rfl ?_
      repeat walk_at "vs"
      exact hq _ b H hb (Gm.ok_mono okb (by omega)) Ext.rfl'
    | store m =>
      have hg' : H gl = some (.lst [.int 4, gv, sv, .ref wl]) := hg
      obtain rfl : gv = .int (m : Nat) := hpv
      obtain ⟨m1, m4⟩ := hwf
      obtain ⟨z, rfl, hz⟩ := okw
      obtain rfl : wv = .str z := hw
      repeat walk_at "vs"
      refine r_ixL hg' rfl ?_
      repeat walk_at "vs"
      refine r_ixL hg' rfl ?_
      repeat walk_at "vs"
      refine r_ixL hg' rfl ?_
      repeat walk_at "vs"
      intro l1 H1 n1 q1 e1
      have q1' : H1 l1 = some (.lst (zfive.map V.str)) := q1
      repeat walk_at "vs"
      refine ⟨l1, rfl, ⟨_, SqL.of q1'⟩, fun acc hn _ _ _ _ => comp_list (SqL.of q1') (by rw [List.length_map]; decide) hn (fun j ys _ => ys = ((zfive.take j).filter fun t => !decide (t = z)).map V.str) rfl (fun _ _ _ _ _ h => h) (fun j ys H' _ h => by rw [h, List.length_map]; exact Nat.le_trans (List.length_filter_le _ _) (by rw [List.length_take]; omega)) ?_ ?_⟩
      · rintro j y ys H2 hy e rfl Y N hY hN
        obtain ⟨y, ey, rfl⟩ := get_str hy
        have et : zfive.take (j + 1) = zfive.take j ++ [y] := by rw [List.take_add_one, ey]; rfl
        repeat walk_at "vs"
        refine r_neSS ?_
        repeat walk_at "vs"
        refine iteN (fun h => ?_) (fun h => ?_)
        · repeat walk_at "vs"
          refine hY _ _ Ext.rfl' ?_
          rw [et, List.filter_append, List.filter_cons, if_pos (by simp [h]), List.map_append]
          rfl
        · repeat walk_at "vs"
          refine hN _ Ext.rfl' ?_
          rw [et, List.filter_append, List.filter_cons, if_neg (by simp [h]), List.filter_nil, List.append_nil]
      · rintro ys H2 e2 ha rfl
        rw [List.length_map, List.take_of_length_le (Nat.le_refl _)] at ha
        have f4 := zfive_few z
        repeat walk_at "vs"
        refine r_ixL ((e1.tr e2) _ _ hg') rfl ?_
        repeat walk_at "vs"
        refine r_slL ha fun l3 H3 n3 q3 e3 => ?_
        rw [cut_to (by omega)] at q3
        repeat walk_at "vs"
        refine r_tupleL q3 fun l4 H4 n4 q4 e4 => ?_
        exact hq _ (.t _) H4 ⟨l4, rfl, q4⟩ ⟨_, rfl, by rw [List.length_take]; omega, fun x hx => zfive_ok.1 x (List.mem_filter.mp (List.mem_of_mem_take hx)).1⟩ (e1.tr (e2.tr (e3.tr e4)))
    | bags R =>
      have hg' : H gl = some (.lst [.int 5, gv, sv, .ref wl]) := hg
      obtain rfl : gv = .int R := hpv
      obtain ⟨bs, rfl, hL, lb⟩ := okb
      obtain ⟨bp, rfl, hbp⟩ := hb
      repeat walk_at "vs"
      refine r_ixL hg' rfl ?_
      repeat walk_at "vs"
      refine r_ixL hg' rfl ?_
      repeat walk_at "vs"
      refine r_ixL hg' rfl ?_
      repeat walk_at "vs"
      refine r_ixL hg' rfl ?_
      repeat walk_at "vs"
      refine r_ixL hg' rfl ?_
      repeat walk_at "vs"
      intro l1 H1 n1 q1 e1
      repeat walk_at "vs"
      refine r_addWT (zs := [R].map V.int) (e1 _ _ hbp) q1 (by simp; omega) fun l2 H2 q2 e2 => ?_
      rw [← List.map_append] at q2
      repeat walk_at "vs"
      refine r_ixL ((e1.tr e2) _ _ hg') rfl ?_
      repeat walk_at "vs"
      intro l3 H3 n3 q3 e3
      repeat walk_at "vs"
      refine r_addWT (zs := [R].map V.int) (e3 _ _ q2) q3 (by simp; omega) fun l4 H4 q4 e4 => ?_
      rw [← List.map_append] at q4
      exact hq _ (.l _) H4 ⟨l4, rfl, q4⟩ ⟨_, rfl, hL.two hwf, by simp; omega⟩ (e1.tr (e2.tr (e3.tr e4)))
def IsPut : Gm → Prop
  | .line _ => True
  | .store _ => True
  | .bags _ => True
  | _ => False
theorem out_set {R s : Int} {os fs : List Int} {k : Nat} (hL : Lds R os) (hk : k < os.length) (s1 : 1 ≤ s) (hR : os.getD k 0 + s ≤ R) (p : fs.Perm (os.set k (os.getD k 0 + s))) (pw : fs.Pairwise (· ≤ ·)) : Lds R fs ∧ fs.length = os.length := by
  refine ⟨⟨pw, fun x hx => ?_⟩, by rw [p.length_eq, List.length_set]⟩
  rcases List.mem_or_eq_of_mem_set (p.mem_iff.mp hx) with h | h
  · exact hL.2 x h
  · have := hL.2 _ (mem_getD' hk)
    omega
theorem open_set {R s : Int} {os fs : List Int} (hL : Lds R os) (s1 : 1 ≤ s) (s2 : s ≤ R) (p : fs.Perm (os ++ [s])) (pw : fs.Pairwise (· ≤ ·)) : Lds R fs ∧ fs.length = os.length + 1 := by
  refine ⟨⟨pw, fun x hx => ?_⟩, by rw [p.length_eq, List.length_append, List.length_singleton]⟩
  rcases List.mem_append.mp (p.mem_iff.mp hx) with h | h
  · exact hL.2 x h
  · rw [List.mem_singleton.mp h]; exact ⟨s1, s2⟩
def sp_law_put_out : Sp := fun us H Q _ => ∃ (gl : Addr) (g : Gm) (st : StG) (ws : List WsG) (b : StG) (w : WsG) (bv wv : V) (n : Nat), us = [bv, wv, .ref gl] ∧ GameV H gl g st ws ∧ g.wf ∧ b.at_ H bv ∧ w.at_ H wv ∧ g.ok n b ∧ g.okW w ∧ n ≤ 40 ∧ IsPut g ∧ ∀ l vs as H', H' l = some (.lst vs) → AllR (StG.at_ H') as vs → as ≠ [] → (∀ s ∈ as, g.ok (n + 1) s) → Ext H H' → Q (.ref l) H'
theorem ok_law_put_out (T : Txt K mg a) : FnOk P w K mg base (CXU P w) 1 a.f_law_put_out a.d_law_put_out ["_law_before", "_law_wish", "_law_game_here"] (sp_law_put_out) := by
  refine T.F_law_put_out.okU sc_law_put_out (fun vs H Q E h => ?_) (fun cdv A outer s H vs Q E hr h => ?_)
  · obtain ⟨gl, g, st, ws, b, w, bv, wv, n, rfl, ⟨gv, sv, wl, wvs, hg, hpv, _⟩, hwf, hb, hw, okb, okw, n40, isp, hq⟩ := h
    rfl
  · obtain ⟨gl, g, st, ws, b, w, bv, wv, n, rfl, ⟨gv, sv, wl, wvs, hg, hpv, _⟩, hwf, hb, hw, okb, okw, n40, isp, hq⟩ := h
    have zc_Bags := T.cl_Bags
    have zn_Bags_room := T.na_Bags_room
    have zc_Hire := T.cl_Hire
    have zn_Hire_whole := T.na_Hire_whole
    have zc_Line := T.cl_Line
    have zn_Line_many := T.na_Line_many
    have zc_Shelf := T.cl_Shelf
    have zn_Shelf_things := T.na_Shelf_things
    have zc_Store := T.cl_Store
    have zn_Store_many := T.na_Store_many
    have zc_Ways := T.cl_Ways
    have zn_Ways_many := T.na_Ways_many
    have zn_Ways_toll := T.na_Ways_toll
    refine ⟨_, (pss_cons (ps_set (i := 3) sc_law_put_out.nd rfl (by first | exact Or.inl rfl | exact Or.inr rfl) (pe_lst pa_nil))
      (pss_cons (ps_for PassesOwn.never rfl (pi_range1 rfl T.n_range (pa_cons (pe_callB cLenW (by rfl) T.n_len PySem.boot_len (pa_cons (pv 0) pa_nil)) pa_nil)) (pg_name (i := 4) sc_law_put_out.nd rfl (by first | exact Or.inl rfl | exact Or.inr rfl)) (pss_cons (ps_set (i := 5) sc_law_put_out.nd rfl (by first | exact Or.inl rfl | exact Or.inr rfl) (pe_op oAddW (pe_slice oSlV (pv 0) po_none (po_some (pv 4))) (pe_slice oSlV (pv 0) (po_some (pe_op oAddW (pv 4) pe_int)) po_none)))
      (pss_one (ps_if (pt_cmpR op_ne (pe_ix oIx (pv 2) pe_int (fun _ _ => rfl)) pe_int (nomark _)) (pss_one (ps_expr (pe_bm PySem.F.plainAttrs_list PySem.F.slot_list_append PySem.F.type_list_append mt_append (pv 3) (pa_cons (pe_callTy cTuple (by rfl) T.n_tuple PyProof.Rows.boot_tuple (pa_cons (pe_callB cSortW (by rfl) T.n_sorted PyProof.Rows.boot_sorted (pa_cons (pe_op oAddW (pv 5) (pe_tup (pa_cons (pv 1) pa_nil))) pa_nil)) pa_nil)) pa_nil)))) (pss_one (ps_if (pt_cmpR oLeW (pe_op oAddW (pe_ix oIx (pv 0) (pv 4) (fun _ _ => rfl)) (pv 1)) (pe_ix oIx (pv 2) pe_int (fun _ _ => rfl)) (nomark _)) (pss_one (ps_expr (pe_bm PySem.F.plainAttrs_list PySem.F.slot_list_append PySem.F.type_list_append mt_append (pv 3) (pa_cons (pe_callTy cTuple (by rfl) T.n_tuple PyProof.Rows.boot_tuple (pa_cons (pe_callB cSortW (by rfl) T.n_sorted PyProof.Rows.boot_sorted (pa_cons (pe_op oAddW (pv 5) (pe_tup (pa_cons (pe_op oAddW (pe_ix oIx (pv 0) (pv 4) (fun _ _ => rfl)) (pv 1)) pa_nil))) pa_nil)) pa_nil)) pa_nil)))) pss_nil))))))
      (pss_cons (ps_if (pt_cmpR (oEq hr) (pe_ix oIx (pv 2) pe_int (fun _ _ => rfl)) pe_int (nomark _)) (pss_one (ps_expr (pe_bm PySem.F.plainAttrs_list PySem.F.slot_list_append PySem.F.type_list_append mt_append (pv 3) (pa_cons (pe_callTy cTuple (by rfl) T.n_tuple PyProof.Rows.boot_tuple (pa_cons (pe_callB cSortW (by rfl) T.n_sorted PyProof.Rows.boot_sorted (pa_cons (pe_op oAddW (pv 0) (pe_tup (pa_cons (pv 1) pa_nil))) pa_nil)) pa_nil)) pa_nil)))) pss_nil)
      (pss_one (ps_ret (pv 3)))))), ?_⟩
    cases g with
    | hire W => exact isp.elim
    | shelf W => exact isp.elim
    | wys W t => exact isp.elim
    | line m =>
      have hg' : H gl = some (.lst [.int 1, gv, sv, .ref wl]) := hg
      obtain ⟨z, rfl⟩ := okw
      obtain rfl : wv = .int z := hw
      obtain ⟨bs, rfl, lb⟩ := okb
      obtain ⟨bp, rfl, hbp⟩ := hb
      obtain ⟨m1, m3⟩ := hwf
      repeat walk_at "vs"
      intro l1 H1 n1 q1 e1
      repeat walk_at "vs"
      refine r_lenWT (e1 _ _ hbp) ?_
      rw [List.length_map]
      repeat walk_at "vs"
      refine ⟨_, rfl, by omega, by omega, for_range (fun i σ H2 => ∃ (u1 u2 : Option V) (vs : List V) (as : List StG), σ = [some (.ref bp), some (.int z), some (.ref gl), some (.ref l1), u1, u2] ∧ Ext H H2 ∧ H2 l1 = some (.lst vs) ∧ AllR (StG.at_ H2) as vs ∧ as.length = i ∧ ∀ s ∈ as, (Gm.line m).ok (n + 1) s) ⟨none, none, [], [], rfl, e1, q1, trivial, rfl, fun s hs => by cases hs⟩ ?_ ?_⟩
      · rintro kk σ H2 hi ⟨u1, u2, vs, as, rfl, x2, q2, has, la, oka⟩
        have hkk : kk < bs.length := by omega
        have hb2 := x2 _ _ hbp
        rw [show ((0 : Int) + (kk : Nat)) = (kk : Nat) by omega]
        have i1 := atI_ints (ns := bs) (k := (kk : Nat)) (by omega) (by omega)
        rw [Int.toNat_natCast] at i1
        repeat walk_at "vs"
        refine r_slA hb2 fun l3 H3 q3 e3 => ?_
        rw [cutI_to (by omega)] at q3
        have hb3 := e3 _ _ hb2
        repeat walk_at "vs"
        refine r_slA hb3 fun l4 H4 q4 e4 => ?_
        rw [show (some ((kk : Int) + 1)) = some ((kk + 1 : Nat) : Int) from by rw [Int.natCast_add]; rfl, cutI_fr (by omega)] at q4
        repeat walk_at "vs"
        refine r_addWT (e4 _ _ q3) q4 (by simp; omega) fun l5 H5 q5 e5 => ?_
        rw [← List.map_append] at q5
        have x25 := e3.tr (e4.tr e5)
        have hg5 := (x2.tr x25) _ _ hg'
        have hb5 := x25 _ _ hb2
        repeat walk_at "vs"
        refine r_ixL hg5 rfl ?_
        repeat walk_at "vs"
        intro l6 H6 n6 q6 e6
        repeat walk_at "vs"
        refine r_addWT (zs := [z].map V.int) (e6 _ _ q5) q6 (by simp; omega) fun l7 H7 q7 e7 => ?_
        rw [← List.map_append] at q7
        repeat walk_at "vs"
        refine r_srtT q7 (by simp; omega) fun l8 ms H8 n8 p8 s8 q8 e8 => ?_
        repeat walk_at "vs"
        refine r_tupleL q8 fun l9 H9 n9 q9 e9 => ?_
        have x9 := x25.tr (e6.tr (e7.tr (e8.tr e9)))
        have g9 := x9 _ _ q2
        have lv := has.len
        repeat walk_at "vs"
        refine r_append g9 (by omega) fun H10 q10 b10 => ?_
        repeat walk_at "vs"
        refine ⟨_, _, _, as ++ [.l ms], rfl, Ext.but (x2.tr x9) b10 n1, q10, (AllR.snoc (f := StG.at_ H9) (show StG.at_ H9 (.l ms) (.ref l9) from ⟨l9, rfl, q9⟩) (has.imp fun k => StG.mono x9 k)).imp fun k => StG.but g9 b10 k, by simp [la], fun s hs => ?_⟩
        rcases List.mem_append.mp hs with q | q
        · exact oka s q
        · rw [List.mem_singleton.mp q]
          exact ⟨ms, rfl, by rw [p8.length_eq]; simp; omega⟩
      · rintro σ H2 ⟨u1, u2, vs, as, rfl, x2, q2, has, la, oka⟩
        repeat walk_at "vs"
        refine r_ixL (x2 _ _ hg') rfl ?_
        repeat walk_at "vs"
        exact hq l1 vs as H2 q2 has (fun e => by rw [e] at la; simp at la; omega) oka x2
    | store m =>
      have hg' : H gl = some (.lst [.int 4, gv, sv, .ref wl]) := hg
      obtain ⟨z, rfl, hz⟩ := okw
      obtain rfl : wv = .str z := hw
      obtain ⟨bs, rfl, lb, nb⟩ := okb
      obtain ⟨bp, rfl, hbp⟩ := hb
      obtain ⟨m1, m3⟩ := hwf
      repeat walk_at "vs"
      intro l1 H1 n1 q1 e1
      repeat walk_at "vs"
      refine r_lenWT (e1 _ _ hbp) ?_
      rw [List.length_map]
      repeat walk_at "vs"
      refine ⟨_, rfl, by omega, by omega, for_range (fun i σ H2 => ∃ (u1 u2 : Option V) (vs : List V) (as : List StG), σ = [some (.ref bp), some (.str z), some (.ref gl), some (.ref l1), u1, u2] ∧ Ext H H2 ∧ H2 l1 = some (.lst vs) ∧ AllR (StG.at_ H2) as vs ∧ as.length = i ∧ ∀ s ∈ as, (Gm.store m).ok (n + 1) s) ⟨none, none, [], [], rfl, e1, q1, trivial, rfl, fun s hs => by cases hs⟩ ?_ ?_⟩
      · rintro kk σ H2 hi ⟨u1, u2, vs, as, rfl, x2, q2, has, la, oka⟩
        have hkk : kk < bs.length := by omega
        have hb2 := x2 _ _ hbp
        rw [show ((0 : Int) + (kk : Nat)) = (kk : Nat) by omega]
        repeat walk_at "vs"
        refine r_slA hb2 fun l3 H3 q3 e3 => ?_
        rw [cut_to (by omega)] at q3
        have hb3 := e3 _ _ hb2
        repeat walk_at "vs"
        refine r_slA hb3 fun l4 H4 q4 e4 => ?_
        rw [show (some ((kk : Int) + 1)) = some ((kk + 1 : Nat) : Int) from by rw [Int.natCast_add]; rfl, cut_from (by omega)] at q4
        repeat walk_at "vs"
        refine r_addWT (e4 _ _ q3) q4 (by simp; omega) fun l5 H5 q5 e5 => ?_
        rw [← List.map_append] at q5
        have x25 := e3.tr (e4.tr e5)
        repeat walk_at "vs"
        refine r_ixL ((x2.tr x25) _ _ hg') rfl ?_
        repeat walk_at "vs"
        intro l6 H6 n6 q6 e6
        repeat walk_at "vs"
        refine r_addWT (zs := [z].map V.str) (e6 _ _ q5) q6 (by simp; omega) fun l7 H7 q7 e7 => ?_
        rw [← List.map_append] at q7
        repeat walk_at "vs"
        refine r_sortWT q7 (by simp; omega) fun l8 ms H8 n8 p8 s8 q8 e8 => ?_
        repeat walk_at "vs"
        refine r_tupleL q8 fun l9 H9 n9 q9 e9 => ?_
        have x9 := x25.tr (e6.tr (e7.tr (e8.tr e9)))
        have g9 := x9 _ _ q2
        have lv := has.len
        repeat walk_at "vs"
        refine r_append g9 (by omega) fun H10 q10 b10 => ?_
        repeat walk_at "vs"
        refine ⟨_, _, _, as ++ [.t ms], rfl, Ext.but (x2.tr x9) b10 n1, q10, (AllR.snoc (f := StG.at_ H9) (show StG.at_ H9 (.t ms) (.ref l9) from ⟨l9, rfl, q9⟩) (has.imp fun k => StG.mono x9 k)).imp fun k => StG.but g9 b10 k, by simp [la], fun s hs => ?_⟩
        rcases List.mem_append.mp hs with q | q
        · exact oka s q
        · rw [List.mem_singleton.mp q]
          refine ⟨ms, rfl, by rw [p8.length_eq]; simp; omega, fun x hx => ?_⟩
          rcases List.mem_append.mp (p8.mem_iff.mp hx) with y | y
          · rcases List.mem_append.mp y with y | y
            · exact nb x (List.mem_of_mem_take y)
            · exact nb x (List.mem_of_mem_drop y)
          · rw [List.mem_singleton.mp y]; exact hz
      · rintro σ H2 ⟨u1, u2, vs, as, rfl, x2, q2, has, la, oka⟩
        repeat walk_at "vs"
        refine r_ixL (x2 _ _ hg') rfl ?_
        repeat walk_at "vs"
        exact hq l1 vs as H2 q2 has (fun e => by rw [e] at la; simp at la; omega) oka x2
    | bags R =>
      have hg' : H gl = some (.lst [.int 5, gv, sv, .ref wl]) := hg
      obtain rfl : gv = .int R := hpv
      obtain ⟨z, rfl, z1, z2⟩ := okw
      obtain rfl : wv = .int z := hw
      obtain ⟨bs, rfl, hL, lb⟩ := okb
      obtain ⟨bp, rfl, hbp⟩ := hb
      repeat walk_at "vs"
      intro l1 H1 n1 q1 e1
      repeat walk_at "vs"
      refine r_lenWT (e1 _ _ hbp) ?_
      rw [List.length_map]
      repeat walk_at "vs"
      refine ⟨_, rfl, by omega, by omega, for_range (fun i σ H2 => ∃ (u1 u2 : Option V) (vs : List V) (as : List StG), σ = [some (.ref bp), some (.int z), some (.ref gl), some (.ref l1), u1, u2] ∧ Ext H H2 ∧ H2 l1 = some (.lst vs) ∧ AllR (StG.at_ H2) as vs ∧ as.length ≤ i ∧ ∀ s ∈ as, (Gm.bags R).ok (n + 1) s) ⟨none, none, [], [], rfl, e1, q1, trivial, Nat.le_refl _, fun s hs => by cases hs⟩ ?_ ?_⟩
      · rintro kk σ H2 hi ⟨u1, u2, vs, as, rfl, x2, q2, has, la, oka⟩
        have hkk : kk < bs.length := by omega
        have hb2 := x2 _ _ hbp
        rw [show ((0 : Int) + (kk : Nat)) = (kk : Nat) by omega]
        have i1 := atI_ints (ns := bs) (k := (kk : Nat)) (by omega) (by omega)
        rw [Int.toNat_natCast] at i1
        repeat walk_at "vs"
        refine r_slA hb2 fun l3 H3 q3 e3 => ?_
        rw [cutI_to (by omega)] at q3
        have hb3 := e3 _ _ hb2
        repeat walk_at "vs"
        refine r_slA hb3 fun l4 H4 q4 e4 => ?_
        rw [show (some ((kk : Int) + 1)) = some ((kk + 1 : Nat) : Int) from by rw [Int.natCast_add]; rfl, cutI_fr (by omega)] at q4
        repeat walk_at "vs"
        refine r_addWT (e4 _ _ q3) q4 (by simp; omega) fun l5 H5 q5 e5 => ?_
        rw [← List.map_append] at q5
        have x25 := e3.tr (e4.tr e5)
        have hg5 := (x2.tr x25) _ _ hg'
        have hb5 := x25 _ _ hb2
        repeat walk_at "vs"
        refine r_ixL hg5 rfl ?_
        repeat walk_at "vs"
        refine r_ixT hb5 i1 ?_
        repeat walk_at "vs"
        refine r_ixL hg5 rfl ?_
        repeat walk_at "vs"
        refine iteD (fun cR => ?_) (fun cR => ?_)
        · repeat walk_at "vs"
          refine r_ixT hb5 i1 ?_
          repeat walk_at "vs"
          intro l6 H6 n6 q6 e6
          repeat walk_at "vs"
          refine r_addWT (zs := [bs.getD kk 0 + z].map V.int) (e6 _ _ q5) q6 (by simp; omega) fun l7 H7 q7 e7 => ?_
          rw [← List.map_append] at q7
          repeat walk_at "vs"
          refine r_srtT q7 (by simp; omega) fun l8 ms H8 n8 p8 s8 q8 e8 => ?_
          repeat walk_at "vs"
          refine r_tupleL q8 fun l9 H9 n9 q9 e9 => ?_
          have x9 := x25.tr (e6.tr (e7.tr (e8.tr e9)))
          have g9 := x9 _ _ q2
          have lv := has.len
          obtain ⟨om, lm⟩ := out_set hL hkk z1 cR (p8.trans (set_out hkk)) s8
          repeat walk_at "vs"
          refine r_append g9 (by omega) fun H10 q10 b10 => ?_
          repeat walk_at "vs"
          refine ⟨_, _, _, as ++ [.l ms], rfl, Ext.but (x2.tr x9) b10 n1, q10, (AllR.snoc (f := StG.at_ H9) (show StG.at_ H9 (.l ms) (.ref l9) from ⟨l9, rfl, q9⟩) (has.imp fun k => StG.mono x9 k)).imp fun k => StG.but g9 b10 k, by simp; omega, fun s hs => ?_⟩
          rcases List.mem_append.mp hs with q | q
          · exact oka s q
          · rw [List.mem_singleton.mp q]
            exact ⟨ms, rfl, om, by omega⟩
        · repeat walk_at "vs"
          exact ⟨_, _, vs, as, rfl, x2.tr x25, x25 _ _ q2, has.imp fun k => StG.mono x25 k, by omega, oka⟩
      · rintro σ H2 ⟨u1, u2, vs, as, rfl, x2, q2, has, la, oka⟩
        repeat walk_at "vs"
        refine r_ixL (x2 _ _ hg') rfl ?_
        repeat walk_at "vs"
        intro l3 H3 n3 q3 e3
        repeat walk_at "vs"
        refine r_addWT (zs := [z].map V.int) ((x2.tr e3) _ _ hbp) q3 (by simp; omega) fun l4 H4 q4 e4 => ?_
        rw [← List.map_append] at q4
        repeat walk_at "vs"
        refine r_srtT q4 (by simp; omega) fun l5 ms H5 n5 p5 s5 q5 e5 => ?_
        repeat walk_at "vs"
        refine r_tupleL q5 fun l6 H6 n6 q6 e6 => ?_
        have x6 := e3.tr (e4.tr (e5.tr e6))
        have g6 := x6 _ _ q2
        have lv := has.len
        obtain ⟨om, lm⟩ := open_set hL z1 z2 p5 s5
        repeat walk_at "vs"
        refine r_append g6 (by omega) fun H7 q7 b7 => ?_
        repeat walk_at "vs"
        refine hq l1 _ (as ++ [.l ms]) H7 q7 ((AllR.snoc (f := StG.at_ H6) (show StG.at_ H6 (.l ms) (.ref l6) from ⟨l6, rfl, q6⟩) (has.imp fun k => StG.mono x6 k)).imp fun k => StG.but g6 b7 k) (by simp) (fun s hs => ?_) (Ext.but (x2.tr x6) b7 n1)
        rcases List.mem_append.mp hs with q | q
        · exact oka s q
        · rw [List.mem_singleton.mp q]
          exact ⟨ms, rfl, om, by omega⟩
def fct : Nat → Nat
  | 0 => 1
  | n + 1 => (n + 1) * fct n
def sp_law_orders (n : Nat) : Sp := fun us H Q _ => ∃ (p : Addr) (ss : List Str), us = [.ref p] ∧ H p = some (.tup (ss.map V.str)) ∧ ss.length ≤ n ∧ n ≤ 4 ∧ ∀ l vs (Ls : List (List Str)) H', H l = none → H' l = some (.lst vs) → RefsHT H' vs Ls → (∀ L ∈ Ls, L.Perm ss) → Ls.length = fct ss.length → Ext H H' → Q (.ref l) H'
theorem out_perm {ss : List Str} {k : Nat} (h : k < ss.length) : (ss.getD k ⟨#[]⟩ :: (ss.take k ++ ss.drop (k + 1))).Perm ss := by
  have e : ss = ss.take k ++ ss.getD k ⟨#[]⟩ :: ss.drop (k + 1) := by
    rw [List.getD_eq_getElem?_getD, List.getElem?_eq_getElem h, Option.getD_some, ← List.drop_eq_getElem_cons h, List.take_append_drop]
  refine List.perm_middle.symm.trans ?_
  rw [← e]
theorem fct_pos : ∀ n, 1 ≤ fct n
  | 0 => Nat.le_refl _
  | n + 1 => Nat.le_trans (fct_pos n) (Nat.le_mul_of_pos_left _ (Nat.succ_pos _))
theorem fct_le : ∀ n, n < 5 → fct n ≤ 24 := by decide
theorem RefsHT.but {H H' : Hp} {x : Addr} {zs : List V} (hx : H x = some (.lst zs)) (b : But x H H') {vs : List V} {Ls : List (List Str)} (r : RefsHT H vs Ls) : RefsHT H' vs Ls := by
  induction r with
  | nil => exact .nil
  | cons c _ ih => exact .cons (b _ _ (fun z => by rw [z, hx] at c; cases c) c) ih
theorem RefsHT.snocN {H : Hp} {a : Addr} {L : List Str} (ha : H a = some (.tup (L.map V.str))) {vs : List V} {Ls : List (List Str)} (r : RefsHT H vs Ls) : RefsHT H (vs ++ [.ref a]) (Ls ++ [L]) := by
  induction r with
  | nil => exact .cons ha .nil
  | cons x _ ih => exact .cons x ih
theorem orders_of {n k : Nat} {spA : Sp} (T : Txt K mg a) (hA : ∀ us H Q E, (∃ m, n = m + 1 ∧ sp_law_orders m us H Q E) → spA us H Q E) (G : FnOk P w K mg base (CXU P w) k a.f_law_orders a.d_law_orders ["_law_things_here"] spA) :
    FnOk P w K mg base (CXU P w) (k + 1) a.f_law_orders a.d_law_orders ["_law_things_here"] (sp_law_orders n) := by
  refine T.F_law_orders.okU sc_law_orders (fun vs H Q E h => ?_) (fun cdv A outer s H vs Q E hr h => ?_)
  · obtain ⟨p, ss, rfl, _⟩ := h
    rfl
  · obtain ⟨p, ss, rfl, hp, hl, h4, hq⟩ := h
    refine ⟨_, (pss_cons (ps_if (pt_cmpR (oEq hr) (pe_callB cLenW (by rfl) T.n_len PySem.boot_len (pa_cons (pv 0) pa_nil)) pe_int (nomark _)) (pss_one (ps_ret (pe_lst (pa_cons (pe_tup pa_nil) pa_nil)))) pss_nil)
      (pss_cons (ps_set (i := 1) sc_law_orders.nd rfl (by first | exact Or.inl rfl | exact Or.inr rfl) (pe_lst pa_nil))
      (pss_cons (ps_for PassesOwn.never rfl (pi_range1 rfl T.n_range (pa_cons (pe_callB cLenW (by rfl) T.n_len PySem.boot_len (pa_cons (pv 0) pa_nil)) pa_nil)) (pg_name (i := 2) sc_law_orders.nd rfl (by first | exact Or.inl rfl | exact Or.inr rfl)) (pss_one (ps_for PassesOwn.never rfl (pi_list (pe_call (G) hr (by rfl) T.m_law_orders T.F_law_orders.kp T.b_law_orders .nil passU (pa_cons (pe_op oAddW (pe_slice oSlV (pv 0) po_none (po_some (pv 2))) (pe_slice oSlV (pv 0) (po_some (pe_op oAddW (pv 2) pe_int)) po_none)) pa_nil))) (pg_name (i := 3) sc_law_orders.nd rfl (by first | exact Or.inl rfl | exact Or.inr rfl)) (pss_one (ps_expr (pe_bm PySem.F.plainAttrs_list PySem.F.slot_list_append PySem.F.type_list_append mt_append (pv 1) (pa_cons (pe_op oAddW (pe_tup (pa_cons (pe_ix oIx (pv 0) (pv 2) (fun _ _ => rfl)) pa_nil)) (pv 3)) pa_nil)))))))
      (pss_one (ps_ret (pv 1)))))), ?_⟩
    repeat walk_at "vs"
    refine r_lenWT hp ?_
    rw [List.length_map]
    repeat walk_at "vs"
    refine iteD (fun c => ?_) (fun c => ?_)
    · repeat walk_at "vs"
      intro t1 H1 n1 q1 e1
      repeat walk_at "vs"
      intro l2 H2 n2 q2 e2
      have es : ss = [] := List.length_eq_zero_iff.mp (by omega)
      subst es
      exact hq l2 _ [[]] H2 (e1.free n2) q2 (.cons (L := []) (e2 _ _ q1) .nil) (fun L hL => by rw [List.mem_singleton.mp hL]) rfl (e1.tr e2)
    obtain ⟨m, rfl⟩ : ∃ m, n = m + 1 := ⟨n - 1, by omega⟩
    obtain ⟨d, ed⟩ : ∃ d, ss.length = d + 1 := ⟨ss.length - 1, by omega⟩
    have f24 := fct_le d (by omega)
    repeat walk_at "vs"
    intro lf H1 n1 q1 e1
    repeat walk_at "vs"
    refine r_lenWT (e1 _ _ hp) ?_
    rw [List.length_map]
    repeat walk_at "vs"
    refine ⟨_, rfl, by omega, by omega, for_range (fun i σ H2 => ∃ (u1 u2 : Option V) (vs : List V) (Ls : List (List Str)), σ = [some (.ref p), some (.ref lf), u1, u2] ∧ Ext H H2 ∧ H2 lf = some (.lst vs) ∧ RefsHT H2 vs Ls ∧ (∀ L ∈ Ls, L.Perm ss) ∧ Ls.length = i * fct d) ⟨none, none, [], [], rfl, e1, q1, .nil, (fun L hL => by cases hL), by simp⟩ ?_ ?_⟩
    · rintro i σ H2 hi ⟨u1, u2, vs, Ls, rfl, x2, q2, rf2, pm2, ln2⟩
      have hi' : i < ss.length := by omega
      have ib : i * fct d ≤ 4 * 24 := Nat.mul_le_mul (by omega) f24
      rw [show ((0 : Int) + (i : Nat)) = (i : Nat) by omega]
      have hp2 := x2 _ _ hp
      repeat walk_at "vs"
      refine r_slA hp2 fun l3 H3 q3 e3 => ?_
      rw [cut_to (by omega)] at q3
      have hp3 := e3 _ _ hp2
      repeat walk_at "vs"
      refine r_slA hp3 fun l4 H4 q4 e4 => ?_
      rw [show (some ((i : Int) + 1)) = some ((i + 1 : Nat) : Int) from by rw [Int.natCast_add]; rfl, cut_from (by omega)] at q4
      repeat walk_at "vs"
      refine r_addWT (e4 _ _ q3) q4 (by simp; omega) fun l5 H5 q5 e5 => ?_
      rw [← List.map_append] at q5
      have x25 := e3.tr (e4.tr e5)
      have lo : (ss.take i ++ ss.drop (i + 1)).length = d := by rw [List.length_append, List.length_take, List.length_drop]; omega
      repeat walk_at "vs"
      refine hA _ _ _ _ ⟨m, rfl, l5, _, rfl, q5, by omega, by omega, fun l6 vs6 Ls6 H6 n6 q6 rf6 pm6 ln6 e6 => ?_⟩
      rw [lo] at ln6
      have x26 := x25.tr e6
      have q26 := x26 _ _ q2
      have nlf : l6 ≠ lf := fun z => by rw [z, x25 _ _ q2] at n6; cases n6
      have l6' := rf6.length
      repeat walk_at "vs"
      refine ⟨l6, rfl, ⟨_, SqL.of q6⟩, for_list (xs := vs6) (fun j σ H7 => ∃ (u2 : Option V) (vs : List V) (Ls : List (List Str)), σ = [some (.ref p), some (.ref lf), some (.int (i : Nat)), u2] ∧ Ext H H7 ∧ H7 l6 = some (.lst vs6) ∧ RefsHT H7 vs6 Ls6 ∧ H7 lf = some (.lst vs) ∧ RefsHT H7 vs Ls ∧ (∀ L ∈ Ls, L.Perm ss) ∧ Ls.length = i * fct d + j) ⟨u2, vs, Ls, rfl, x2.tr x26, q6, rf6, q26, rf2.mono x26, pm2, by omega⟩ (fun j σ H7 _ h => by obtain ⟨_, _, _, _, _, h, _⟩ := h; exact SqL.of h) ?_ ?_⟩
      · rintro j z σ H7 hz ⟨u2, vs, Ls, rfl, x7, q7, rf7, g7, rg7, pg7, lg7⟩
        have hj : j < vs6.length := (List.getElem?_eq_some_iff.mp hz).1
        obtain ⟨c, rfl, hc⟩ := rf7.get j z hz
        have hM : Ls6.getD j [] ∈ Ls6 := by rw [List.getD_eq_getElem?_getD, List.getElem?_eq_getElem (by omega)]; exact List.getElem_mem (by omega)
        have pL := pm6 _ hM
        have lL := pL.length_eq
        have lv := rg7.length
        have i1 := atI_strs (ss := ss) (k := (i : Nat)) (by omega) (by omega)
        rw [Int.toNat_natCast] at i1
        repeat walk_at "vs"
        refine r_ixT (x7 _ _ hp) i1 ?_
        repeat walk_at "vs"
        intro l8 H8 n8 q8 e8
        repeat walk_at "vs"
        refine r_addWT q8 (e8 _ _ hc) (by simp only [List.length_map, List.length_cons, List.length_nil]; omega) fun l9 H9 q9 e9 => ?_
        have x9 := e8.tr e9
        have g9 := x9 _ _ g7
        repeat walk_at "vs"
        refine r_append g9 (by omega) fun H10 q10 b10 => ?_
        repeat walk_at "vs"
        refine ⟨_, _, Ls ++ [ss.getD i ⟨#[]⟩ :: Ls6.getD j []], rfl, Ext.but (x7.tr x9) b10 n1, b10 _ _ nlf (x9 _ _ q7), RefsHT.but g9 b10 (rf7.mono x9), q10, RefsHT.but g9 b10 (RefsHT.snocN q9 (rg7.mono x9)), fun L hL => ?_, by simp [lg7]; omega⟩
        rcases List.mem_append.mp hL with q | q
        · exact pg7 L q
        · rw [List.mem_singleton.mp q]
          exact (pL.cons _).trans (out_perm hi')
      · rintro σ H7 ⟨u2, vs, Ls, rfl, x7, q7, rf7, g7, rg7, pg7, lg7⟩
        repeat walk_at "vs"
        exact ⟨_, _, vs, Ls, rfl, x7, g7, rg7, pg7, by rw [lg7, l6', ln6, Nat.succ_mul]⟩
    · rintro σ H2 ⟨u1, u2, vs, Ls, rfl, x2, q2, rf2, pm2, ln2⟩
      rw [Int.toNat_natCast] at ln2
      repeat walk_at "vs"
      exact hq lf vs Ls H2 n1 q2 rf2 pm2 (by rw [ln2, ed]; rfl) x2
theorem ok_orders_n (T : Txt K mg a) : ∀ n : Nat, FnOk P w K mg base (CXU P w) (n + 1) a.f_law_orders a.d_law_orders ["_law_things_here"] (sp_law_orders n)
  | 0 => orders_of (k := 0) (spA := fun _ _ _ _ => False) T (fun _ _ _ _ ⟨m, e, _⟩ => by omega) FnOk.no
  | n + 1 => orders_of (n := n + 1) (k := n + 1) (spA := sp_law_orders n) T (fun _ _ _ _ ⟨m, e, h⟩ => by cases e; exact h) (ok_orders_n T n)
theorem ok_law_orders (T : Txt K mg a) : FnOk P w K mg base (CXU P w) 5 a.f_law_orders a.d_law_orders ["_law_things_here"] (sp_law_orders 4) := ok_orders_n T 4
theorem all_ne {α : Type} {f : α → V → Prop} {as : List α} {vs : List V} (h : AllR f as vs) (n : as ≠ []) : 0 < vs.length := by
  rw [← h.len]
  exact List.length_pos_iff.mpr n
def sp_law_after : Sp := fun us H Q _ => ∃ (gl : Addr) (g : Gm) (st : StG) (ws : List WsG) (b : StG) (w : WsG) (bv wv : V) (n : Nat), us = [.ref gl, bv, wv] ∧ GameV H gl g st ws ∧ g.wf ∧ b.at_ H bv ∧ w.at_ H wv ∧ g.ok n b ∧ g.okW w ∧ n ≤ 40 ∧ ∀ l vs as H', H' l = some (.lst vs) → AllR (StG.at_ H') as vs → as ≠ [] → (∀ s ∈ as, g.ok (n + 1) s) → Ext H H' → Q (.ref l) H'
theorem ok_law_after (T : Txt K mg a) : FnOk P w K mg base (CXU P w) 6 a.f_law_after a.d_law_after ["_law_game_here", "_law_before", "_law_wish"] (sp_law_after) := by
  refine T.F_law_after.okU sc_law_after (fun vs H Q E h => ?_) (fun cdv A outer s H vs Q E hr h => ?_)
  · obtain ⟨gl, g, st, ws, b, w, bv, wv, n, rfl, hG, hwf, hb, hw, okb, okw, n40, hq⟩ := h
    rfl
  · obtain ⟨gl, g, st, ws, b, w, bv, wv, n, rfl, hG, hwf, hb, hw, okb, okw, n40, hq⟩ := h
    refine ⟨_, (pss_cons (ps_if (pt_cmpR (oEq hr) (pe_ix oIx (pv 0) pe_int (fun _ _ => rfl)) pe_int (nomark _)) (pss_one (ps_ret (pe_ix oIx (pe_lst (pa_cons (pe_lst (pa_cons pe_int (pa_cons pe_int pa_nil))) (pa_cons (pe_lst (pa_cons pe_int pa_nil)) pa_nil))) (pv 1) (fun _ _ => rfl)))) pss_nil)
      (pss_cons (ps_if (pt_cmpR (oEq hr) (pe_ix oIx (pv 0) pe_int (fun _ _ => rfl)) pe_int (nomark _)) (pss_one (ps_ret (pe_call (ok_law_orders T) (hr.mono (by decide)) (by rfl) T.m_law_orders T.F_law_orders.kp T.b_law_orders .nil passU (pa_cons (pe_ix oIx (pv 0) pe_int (fun _ _ => rfl)) pa_nil)))) pss_nil)
      (pss_cons (ps_if (pt_cmpR (oEq hr) (pe_ix oIx (pv 0) pe_int (fun _ _ => rfl)) pe_int (nomark _)) (pss_one (ps_ret (pe_listRng rfl (by rfl) T.n_list (by rfl) T.n_range (pa_cons (pe_ix oIx (pe_ix oIx (pv 0) pe_int (fun _ _ => rfl)) pe_int (fun _ _ => rfl)) pa_nil)))) pss_nil)
      (pss_cons (ps_if (PW.pt (pw_and (pt_cmpR op_ne (pe_ix oIx (pv 0) pe_int (fun _ _ => rfl)) pe_int (nomark _)) (pw_and1 (pt_cmpR oIn (pv 2) (pv 1) (by with_unfolding_all rfl))))) (pss_one (ps_ret (pe_lst (pa_cons (pv 1) pa_nil)))) pss_nil)
      (pss_one (ps_ret (pe_call (ok_law_put_out T) (hr.mono (by decide)) (by rfl) T.m_law_put_out T.F_law_put_out.kp T.b_law_put_out .nil passU (pa_cons (pv 1) (pa_cons (pv 2) (pa_cons (pv 0) pa_nil)))))))))), ?_⟩
    have hG' := hG
    obtain ⟨gv, sv, wl, wvs, hg, hpv, _⟩ := hG'
    cases g with
    | hire W =>
      have hg' : H gl = some (.lst [.int 0, gv, sv, .ref wl]) := hg
      repeat walk_at "vs"
      refine r_ixL hg' rfl ?_
      repeat walk_at "vs"
      intro l1 H1 n1 q1 e1
      repeat walk_at "vs"
      intro l2 H2 n2 q2 e2
      repeat walk_at "vs"
      intro l3 H3 n3 q3 e3
      have ok0 : (Gm.hire W).ok (n + 1) (.i 0) := .inl rfl
      have ok1 : (Gm.hire W).ok (n + 1) (.i 1) := .inr rfl
      rcases okb with rfl | rfl
      · obtain rfl : bv = .int 0 := hb
        repeat walk_at "vs"
        refine r_ixL q3 rfl ?_
        repeat walk_at "vs"
        exact hq l1 _ [.i 0, .i 1] H3 (e3 _ _ (e2 _ _ q1)) ⟨rfl, rfl, trivial⟩ (by simp) (fun s hs => by simp at hs; rcases hs with rfl | rfl <;> assumption) (e1.tr (e2.tr e3))
      · obtain rfl : bv = .int 1 := hb
        repeat walk_at "vs"
        refine r_ixL q3 rfl ?_
        repeat walk_at "vs"
        exact hq l2 _ [.i 1] H3 (e3 _ _ q2) ⟨rfl, trivial⟩ (by simp) (fun s hs => by simp at hs; rw [hs]; exact ok1) (e1.tr (e2.tr e3))
    | shelf ts =>
      have hg' : H gl = some (.lst [.int 2, gv, sv, .ref wl]) := hg
      obtain ⟨tp, rfl, htp⟩ := hpv
      repeat walk_at "vs"
      refine r_ixL hg' rfl ?_
      repeat walk_at "vs"
      refine r_ixL hg' rfl ?_
      repeat walk_at "vs"
      refine r_ixL hg' rfl ?_
      repeat walk_at "vs"
      refine ⟨tp, ts, rfl, htp, hwf.2.1, Nat.le_refl _, fun l vs Ls H' _ q rf pm ln e => ?_⟩
      refine hq l vs (Ls.map .t) H' q (all_refsT rf) (fun z => ?_) (fun s hs => ?_) e
      · have := fct_pos ts.length
        rw [← ln, ← List.length_map (f := StG.t), z] at this
        simp at this
      · obtain ⟨L, hL, rfl⟩ := List.mem_map.mp hs
        exact ⟨L, rfl, pm L hL⟩
    | wys m t =>
      have hg' : H gl = some (.lst [.int 3, gv, sv, .ref wl]) := hg
      obtain ⟨tp, rfl, htp⟩ := hpv
      obtain ⟨m1, m4⟩ := hwf
      repeat walk_at "vs"
      refine r_ixL hg' rfl ?_
      repeat walk_at "vs"
      refine r_ixL hg' rfl ?_
      repeat walk_at "vs"
      refine r_ixL hg' rfl ?_
      repeat walk_at "vs"
      refine r_ixL hg' rfl ?_
      repeat walk_at "vs"
      refine r_ixT htp rfl ?_
      repeat walk_at "vs"
      refine r_listRng m rfl (by omega) fun l H' _ q e => ?_
      refine hq l _ ((numsN m).map .i) H' q (all_si _) (fun z => ?_) (fun s hs => ?_) e
      · have := congrArg List.length z
        rw [List.length_map, numsN_len] at this
        simp at this
        omega
      · obtain ⟨x, hx, rfl⟩ := List.mem_map.mp hs
        obtain ⟨i, hi, rfl⟩ := List.mem_map.mp hx
        have := List.mem_range.mp hi
        exact ⟨_, rfl, by omega, by omega⟩
    | line m =>
      have hg' : H gl = some (.lst [.int 1, gv, sv, .ref wl]) := hg
      have okb0 := okb
      have okw0 := okw
      have hb0 := hb
      have hw0 := hw
      obtain ⟨z, rfl⟩ := okw
      obtain rfl : wv = .int z := hw
      obtain ⟨bs, rfl, lb⟩ := okb
      obtain ⟨bp, rfl, hbp⟩ := hb
      repeat walk_at "vs"
      refine r_ixL hg' rfl ?_
      repeat walk_at "vs"
      refine r_ixL hg' rfl ?_
      repeat walk_at "vs"
      refine r_ixL hg' rfl ?_
      repeat walk_at "vs"
      refine r_ixL hg' rfl ?_
      repeat walk_at "vs"
      refine r_inT hbp rfl (flat_ints _) ?_
      rw [inV_ints]
      repeat walk_at "vs"
      refine iteD (fun c => ?_) (fun c => ?_)
      · repeat walk_at "vs"
        intro l1 H1 n1 q1 e1
        exact hq l1 _ [.l bs] H1 q1 ⟨StG.mono e1 hb0, trivial⟩ (by simp) (fun s hs => by rw [List.mem_singleton.mp hs]; exact okb0) e1
      · repeat walk_at "vs"
        exact ⟨gl, _, st, ws, _, _, _, _, n, rfl, hG, hwf, hb0, hw0, okb0, okw0, n40, trivial, hq⟩
    | store m =>
      have hg' : H gl = some (.lst [.int 4, gv, sv, .ref wl]) := hg
      have okb0 := okb
      have okw0 := okw
      have hb0 := hb
      have hw0 := hw
      obtain ⟨z, rfl, hz⟩ := okw
      obtain rfl : wv = .str z := hw
      obtain ⟨bs, rfl, lb, nb⟩ := okb
      obtain ⟨bp, rfl, hbp⟩ := hb
      repeat walk_at "vs"
      refine r_ixL hg' rfl ?_
      repeat walk_at "vs"
      refine r_ixL hg' rfl ?_
      repeat walk_at "vs"
      refine r_ixL hg' rfl ?_
      repeat walk_at "vs"
      refine r_ixL hg' rfl ?_
      repeat walk_at "vs"
      refine r_inT hbp rfl (flat_strs _) ?_
      rw [inV_strs]
      repeat walk_at "vs"
      refine iteD (fun c => ?_) (fun c => ?_)
      · repeat walk_at "vs"
        intro l1 H1 n1 q1 e1
        exact hq l1 _ [.t bs] H1 q1 ⟨StG.mono e1 hb0, trivial⟩ (by simp) (fun s hs => by rw [List.mem_singleton.mp hs]; exact okb0) e1
      · repeat walk_at "vs"
        exact ⟨gl, _, st, ws, _, _, _, _, n, rfl, hG, hwf, hb0, hw0, okb0, okw0, n40, trivial, hq⟩
    | bags R =>
      have hg' : H gl = some (.lst [.int 5, gv, sv, .ref wl]) := hg
      repeat walk_at "vs"
      refine r_ixL hg' rfl ?_
      repeat walk_at "vs"
      refine r_ixL hg' rfl ?_
      repeat walk_at "vs"
      refine r_ixL hg' rfl ?_
      repeat walk_at "vs"
      refine r_ixL hg' rfl ?_
      repeat walk_at "vs"
      exact ⟨gl, _, st, ws, b, w, bv, wv, n, rfl, hG, hwf, hb, hw, okb, okw, n40, trivial, hq⟩
def sp_law_mixed : Sp := fun vs H Q _ => ∃ c k, vs = [.int c, .int k] ∧ 0 ≤ k ∧ k ≤ 1000000 ∧ ∀ n, 0 ≤ n → n < 2147483629 → Q (.int n) H
theorem ok_law_mixed (T : Txt K mg a) : FnOk P w K mg base (CXU P w) 1 a.f_law_mixed a.d_law_mixed ["_law_cell_here", "_law_k"] (sp_law_mixed) := by
  refine T.F_law_mixed.okU sc_law_mixed (fun vs H Q E h => ?_) (fun cdv A outer s H vs Q E hr h => ?_)
  · obtain ⟨c, k, rfl, h0, h1, hq⟩ := h
    rfl
  · obtain ⟨c, k, rfl, h0, h1, hq⟩ := h
    refine ⟨_, (pss_cons (ps_set (i := 2) sc_law_mixed.nd rfl (by first | exact Or.inl rfl | exact Or.inr rfl) (pe_op op_mod (pe_op oAddW (pe_op oAddW (pe_op oMulW (pe_op op_mod (pv 0) pe_int) pe_int) (pe_op oMulW (pe_op oMulW pe_int (pv 1)) (pv 1))) pe_int) pe_int))
      (pss_one (ps_ret (pe_op op_mod (pe_op oMulW (pv 2) (pv 2)) pe_int)))), ?_⟩
    repeat walk_at "vs"
    exact hq _ (by omega) (by omega)
def sp_law_cell (K : PySem.W.Frag) : Sp := fun vs H Q _ => ∃ (p : Addr) (ns : List Int) (k : Int), vs = [.ref p, .int k] ∧ SqL K H p (ns.map V.int) ∧ 0 ≤ k ∧ (∀ z ∈ ns, ib z ≤ 1048576) ∧ ∀ c, ib c ≤ 1048576 → Q (.int c) H
theorem ok_law_cell (T : Txt K mg a) : FnOk P w K mg base (CXU P w) 1 a.f_law_cell a.d_law_cell ["_law_script", "_law_k"] (sp_law_cell K) := by
  refine T.F_law_cell.okU sc_law_cell (fun vs H Q E h => ?_) (fun cdv A outer s H vs Q E hr h => ?_)
  · obtain ⟨p, ns, k, rfl, hS, hk, hb, hq⟩ := h
    rfl
  · obtain ⟨p, ns, k, rfl, hS, hk, hb, hq⟩ := h
    refine ⟨_, (pss_cons (ps_if (pt_cmpR op_lt (pv 1) (pe_callB cLenW (by rfl) T.n_len PySem.boot_len (pa_cons (pv 0) pa_nil)) (nomark _)) (pss_one (ps_ret (pe_ix oIx (pv 0) (pv 1) (fun _ _ => rfl)))) pss_nil)
      (pss_one (ps_ret pe_int))), ?_⟩
    repeat walk_at "vs"
    refine r_lenWQ hS ?_
    repeat walk_at "vs"
    rw [List.length_map]
    refine iteD (fun h => ?_) (fun h => ?_)
    · repeat walk_at "vs"
      have hl : k.toNat < ns.length := by omega
      refine r_ixS hS (v := .int ns[k.toNat]) (atI_int hk (by rw [List.getElem?_map, List.getElem?_eq_getElem hl]; rfl)) ?_
      exact hq _ (hb _ (List.getElem_mem hl))
    · repeat walk_at "vs"
      exact hq 0 (by decide)
def sp_law_way (K : PySem.W.Frag) : Sp := fun us H Q _ => ∃ (p gl : Addr) (ns : List Int) (g : Gm) (st : StG) (ws : List WsG) (sy : Bool), us = [.ref p, .ref gl, .bl sy] ∧ SqL K H p (ns.map V.int) ∧ (∀ z ∈ ns, ib z ≤ 1048576) ∧ GameV H gl g st ws ∧ GameOk g st ws ∧ ∀ l vs as H', H' l = some (.lst vs) → AllR (StG.at_ H') as vs → as.length = ws.length → (∀ s ∈ as, g.ok 40 s) → Ext H H' → Q (.ref l) H'
theorem ok_law_way (T : Txt K mg a) : FnOk P w K mg base (CXU P w) 7 a.f_law_way a.d_law_way ["_law_script", "_law_game_here", "_law_straying"] (sp_law_way K) := by
  refine T.F_law_way.okU sc_law_way (fun vs H Q E h => ?_) (fun cdv A outer s H vs Q E hr h => ?_)
  · obtain ⟨p, gl, ns, g, st, ws, sy, rfl, hS, hb, hG, ⟨hwf, okst, okw, l12⟩, hq⟩ := h
    rfl
  · obtain ⟨p, gl, ns, g, st, ws, sy, rfl, hS, hb, hG, ⟨hwf, okst, okw, l12⟩, hq⟩ := h
    have zc_Bags := T.cl_Bags
    have zn_Bags_room := T.na_Bags_room
    have zc_Hire := T.cl_Hire
    have zn_Hire_whole := T.na_Hire_whole
    have zc_Line := T.cl_Line
    have zn_Line_many := T.na_Line_many
    have zc_Shelf := T.cl_Shelf
    have zn_Shelf_things := T.na_Shelf_things
    have zc_Store := T.cl_Store
    have zn_Store_many := T.na_Store_many
    have zc_Ways := T.cl_Ways
    have zn_Ways_many := T.na_Ways_many
    have zn_Ways_toll := T.na_Ways_toll
    refine ⟨_, (pss_cons (ps_set (i := 3) sc_law_way.nd rfl (by first | exact Or.inl rfl | exact Or.inr rfl) (pe_ix oIx (pv 1) pe_int (fun _ _ => rfl)))
      (pss_cons (ps_set (i := 4) sc_law_way.nd rfl (by first | exact Or.inl rfl | exact Or.inr rfl) (pe_lst pa_nil))
      (pss_cons (ps_for PassesOwn.never rfl (pi_range1 rfl T.n_range (pa_cons (pe_callB cLenW (by rfl) T.n_len PySem.boot_len (pa_cons (pe_ix oIx (pv 1) pe_int (fun _ _ => rfl)) pa_nil)) pa_nil)) (pg_name (i := 5) sc_law_way.nd rfl (by first | exact Or.inl rfl | exact Or.inr rfl)) (pss_cons (ps_set (i := 6) sc_law_way.nd rfl (by first | exact Or.inl rfl | exact Or.inr rfl) (pe_call (ok_law_mixed T) (hr.mono (by decide)) (by rfl) T.m_law_mixed T.F_law_mixed.kp T.b_law_mixed .nil passU (pa_cons (pe_call (ok_law_cell T) (hr.mono (by decide)) (by rfl) T.m_law_cell T.F_law_cell.kp T.b_law_cell .nil passU (pa_cons (pv 0) (pa_cons (pe_op oAddW (pv 5) pe_int) pa_nil))) (pa_cons (pe_op oAddW (pv 5) pe_int) pa_nil))))
      (pss_cons (ps_set (i := 7) sc_law_way.nd rfl (by first | exact Or.inl rfl | exact Or.inr rfl) (pe_call (ok_law_after T) (hr.mono (by decide)) (by rfl) T.m_law_after T.F_law_after.kp T.b_law_after .nil passU (pa_cons (pv 1) (pa_cons (pv 3) (pa_cons (pe_ix oIx (pe_ix oIx (pv 1) pe_int (fun _ _ => rfl)) (pv 5) (fun _ _ => rfl)) pa_nil)))))
      (pss_cons (ps_set (i := 8) sc_law_way.nd rfl (by first | exact Or.inl rfl | exact Or.inr rfl) (pe_ix oIx (pv 7) (pe_op op_mod (pv 6) (pe_callB cLenW (by rfl) T.n_len PySem.boot_len (pa_cons (pv 7) pa_nil))) (fun _ _ => rfl)))
      (pss_cons (ps_if (PW.pt (pw_and (ptT (pv 2) (fun _ => rfl)) (pw_and1 (pt_cmpR (oEq hr) (pe_op op_mod (pe_op op_fdivB (pv 6) pe_int) pe_int) pe_int (nomark _))))) (pss_one (ps_set (i := 8) sc_law_way.nd rfl (by first | exact Or.inl rfl | exact Or.inr rfl) (pe_call (ok_law_strayed T) (hr.mono (by decide)) (by rfl) T.m_law_strayed T.F_law_strayed.kp T.b_law_strayed .nil passU (pa_cons (pv 1) (pa_cons (pv 3) (pa_cons (pe_ix oIx (pe_ix oIx (pv 1) pe_int (fun _ _ => rfl)) (pv 5) (fun _ _ => rfl)) (pa_cons (pe_op op_fdivB (pv 6) pe_int) pa_nil))))))) pss_nil)
      (pss_cons (ps_expr (pe_bm PySem.F.plainAttrs_list PySem.F.slot_list_append PySem.F.type_list_append mt_append (pv 4) (pa_cons (pv 8) pa_nil)))
      (pss_one (ps_set (i := 3) sc_law_way.nd rfl (by first | exact Or.inl rfl | exact Or.inr rfl) (pv 8)))))))))
      (pss_one (ps_ret (pv 4)))))), ?_⟩
    have hG' := hG
    obtain ⟨gv, sv, wl, wvs, hg, hpv, hsv, hwl, hws⟩ := hG'
    have lw := hws.len
    repeat walk_at "vs"
    refine r_ixL hg rfl ?_
    repeat walk_at "vs"
    intro l1 H1 n1 q1 e1
    repeat walk_at "vs"
    refine r_ixL (e1 _ _ hg) rfl ?_
    repeat walk_at "vs"
    refine r_lenWL (e1 _ _ hwl) ?_
    repeat walk_at "vs"
    refine ⟨_, rfl, by omega, by omega, for_range (fun i σ H2 => ∃ (b : StG) (hv : V) (as : List StG) (vs : List V) (u1 u2 u3 u4 : Option V), σ = [some (.ref p), some (.ref gl), some (.bl sy), some hv, some (.ref l1), u1, u2, u3, u4] ∧ Ext H H2 ∧ b.at_ H2 hv ∧ g.ok (4 + 2 * i) b ∧ H2 l1 = some (.lst vs) ∧ AllR (StG.at_ H2) as vs ∧ as.length = i ∧ ∀ s ∈ as, g.ok 40 s) ⟨st, sv, [], [], none, none, none, none, rfl, e1, StG.mono e1 hsv, okst, q1, trivial, rfl, fun s hs => by cases hs⟩ ?_ ?_⟩
    · rintro i σ H2 hi ⟨b, hv, as, vs, u1, u2, u3, u4, rfl, x2, hb2, okb, q2, has, la, oka⟩
      rw [show ((0 : Int) + (i : Nat)) = (i : Nat) by omega]
      have hi' : i < wvs.length := by omega
      obtain ⟨wv, ewv⟩ : ∃ wv, wvs[i]? = some wv := ⟨_, List.getElem?_eq_getElem hi'⟩
      obtain ⟨ww, eww, hw⟩ := hws.get ewv
      have okww := okw ww (List.mem_of_getElem? eww)
      have iw : atI wvs (i : Nat) = some wv := atI_int (by omega) (by rw [Int.toNat_natCast]; exact ewv)
      repeat walk_at "vs"
      refine ⟨p, ns, _, rfl, x2.seqL hS, by omega, hb, fun c hc => ?_⟩
      repeat walk_at "vs"
      refine ⟨_, _, rfl, by omega, by omega, fun m m0 m1 => ?_⟩
      repeat walk_at "vs"
      refine r_ixL (x2 _ _ hg) rfl ?_
      repeat walk_at "vs"
      refine r_ixL (x2 _ _ hwl) iw ?_
      repeat walk_at "vs"
      refine ⟨gl, g, st, ws, b, ww, hv, wv, _, rfl, hG.mono x2, hwf, hb2, WsG.mono x2 hw, okb, okww, by omega, fun l3 v3 a3 H3 q3 r3 ne3 ok3 e3 => ?_⟩
      have p3 := all_ne r3 ne3
      have b0 := Int.emod_nonneg m (show (v3.length : Int) ≠ 0 by omega)
      have b1 := Int.emod_lt_of_pos m (show (0 : Int) < v3.length by omega)
      obtain ⟨av, eav⟩ : ∃ av, v3[(m % (v3.length : Int)).toNat]? = some av := ⟨_, List.getElem?_eq_getElem (by omega)⟩
      obtain ⟨sn0, esn, hsn0⟩ := r3.get eav
      have okn0 := ok3 sn0 (List.mem_of_getElem? esn)
      repeat walk_at "vs"
      refine r_lenWL q3 ?_
      repeat walk_at "vs"
      refine r_ixL q3 (atI_int b0 eav) ?_
      cases sy with
      | false =>
        repeat walk_at "vs"
        have x29 := e3
        have hsn := hsn0
        obtain ⟨sn, es⟩ : ∃ sn, sn = sn0 := ⟨_, rfl⟩
        rw [← es] at hsn okn0
        have okn : g.ok (4 + 2 * (i + 1)) sn := Gm.ok_mono okn0 (by omega)
        have g9 := x29 _ _ q2
        have lv := has.len
        repeat walk_at "vs"
        refine r_append g9 (by omega) fun H10 q10 b10 => ?_
        repeat walk_at "vs"
        refine ⟨_, _, as ++ [sn], _, _, _, _, _, rfl, Ext.but (x2.tr x29) b10 n1, StG.but g9 b10 hsn, okn, q10, (AllR.snoc hsn (has.imp fun k => StG.mono x29 k)).imp fun k => StG.but g9 b10 k, by simp [la], fun s hs => ?_⟩
        rcases List.mem_append.mp hs with q | q
        · exact oka s q
        · rw [List.mem_singleton.mp q]; exact Gm.ok_mono okn (by omega)
      | true =>
        repeat walk_at "vs"
        refine iteD (fun c4 => ?_) (fun c4 => ?_)
        · repeat walk_at "vs"
          refine r_ixL ((x2.tr e3) _ _ hg) rfl ?_
          repeat walk_at "vs"
          refine r_ixL ((x2.tr e3) _ _ hwl) iw ?_
          repeat walk_at "vs"
          refine ⟨gl, g, st, ws, b, ww, hv, wv, _, _, rfl, hG.mono (x2.tr e3), hwf, StG.mono e3 hb2, WsG.mono (x2.tr e3) hw, okb, okww, by omega, fun v4 sn H4 hsn okn0 e4 => ?_⟩
          have x29 := e3.tr e4
          have okn : g.ok (4 + 2 * (i + 1)) sn := Gm.ok_mono okn0 (by omega)
          have g9 := x29 _ _ q2
          have lv := has.len
          repeat walk_at "vs"
          refine r_append g9 (by omega) fun H10 q10 b10 => ?_
          repeat walk_at "vs"
          refine ⟨_, _, as ++ [sn], _, _, _, _, _, rfl, Ext.but (x2.tr x29) b10 n1, StG.but g9 b10 hsn, okn, q10, (AllR.snoc hsn (has.imp fun k => StG.mono x29 k)).imp fun k => StG.but g9 b10 k, by simp [la], fun s hs => ?_⟩
          rcases List.mem_append.mp hs with q | q
          · exact oka s q
          · rw [List.mem_singleton.mp q]; exact Gm.ok_mono okn (by omega)
        · repeat walk_at "vs"
          have x29 := e3
          have hsn := hsn0
          obtain ⟨sn, es⟩ : ∃ sn, sn = sn0 := ⟨_, rfl⟩
          rw [← es] at hsn okn0
          have okn : g.ok (4 + 2 * (i + 1)) sn := Gm.ok_mono okn0 (by omega)
          have g9 := x29 _ _ q2
          have lv := has.len
          repeat walk_at "vs"
          refine r_append g9 (by omega) fun H10 q10 b10 => ?_
          repeat walk_at "vs"
          refine ⟨_, _, as ++ [sn], _, _, _, _, _, rfl, Ext.but (x2.tr x29) b10 n1, StG.but g9 b10 hsn, okn, q10, (AllR.snoc hsn (has.imp fun k => StG.mono x29 k)).imp fun k => StG.but g9 b10 k, by simp [la], fun s hs => ?_⟩
          rcases List.mem_append.mp hs with q | q
          · exact oka s q
          · rw [List.mem_singleton.mp q]; exact Gm.ok_mono okn (by omega)
    · rintro σ H2 ⟨b, hv, as, vs, u1, u2, u3, u4, rfl, x2, hb2, okb, q2, has, la, oka⟩
      rw [Int.toNat_natCast] at la
      repeat walk_at "vs"
      exact hq l1 vs as H2 q2 has (by omega) oka x2
def sp_law_sum : Sp := fun vs H Q _ => ∃ c k, vs = [.int c, .int k] ∧ 0 ≤ k ∧ k ≤ 1000000 ∧ ib c ≤ 1048577 ∧ ∀ n, 0 ≤ n → n ≤ 1000000000000000000 → Q (.int n) H
theorem ok_law_sum (T : Txt K mg a) : FnOk P w K mg base (CXU P w) 2 a.f_law_sum a.d_law_sum ["_law_cell_here", "_law_k"] (sp_law_sum) := by
  refine T.F_law_sum.okU sc_law_sum (fun vs H Q E h => ?_) (fun cdv A outer s H vs Q E hr h => ?_)
  · obtain ⟨c, k, rfl, h0, h1, hb, hq⟩ := h
    rfl
  · obtain ⟨c, k, rfl, h0, h1, hb, hq⟩ := h
    refine ⟨_, (pss_cons (ps_set (i := 2) sc_law_sum.nd rfl (by first | exact Or.inl rfl | exact Or.inr rfl) (pe_call (ok_law_mixed T) (hr.mono (by decide)) (by rfl) T.m_law_mixed T.F_law_mixed.kp T.b_law_mixed .nil passU (pa_cons (pv 0) (pa_cons (pv 1) pa_nil))))
      (pss_cons (ps_if (pt_cmpR (oEq hr) (pe_op op_mod (pv 2) pe_int) pe_int (nomark _)) (pss_one (ps_ret (pe_op op_mod (pe_op op_fdivB (pv 2) pe_int) pe_int))) pss_nil)
      (pss_cons (ps_if (pt_cmpR (oEq hr) (pe_op op_mod (pv 2) pe_int) pe_int (nomark _)) (pss_one (ps_ret (pe_op op_mod (pe_op op_fdivB (pv 2) pe_int) (pe_op op_pow pe_int pe_int)))) pss_nil)
      (pss_one (ps_ret (pe_op op_mod (pe_op oMulW (pe_op oAddW (pv 0) (pv 2)) (pe_op op_pow pe_int pe_int)) (pe_op oAddW (pe_op op_pow pe_int pe_int) pe_int))))))), ?_⟩
    repeat walk_at "vs"
    refine ⟨c, k, rfl, h0, h1, fun n n0 n1 => ?_⟩
    repeat walk_at "vs"
    refine iteD (fun h => ?_) (fun h => ?_)
    · repeat walk_at "vs"
      exact hq _ (by omega) (by omega)
    · repeat walk_at "vs"
      refine iteD (fun h => ?_) (fun h => ?_)
      · repeat walk_at "vs"
        exact hq _ (by omega) (by omega)
      · repeat walk_at "vs"
        refine r_mulWI (mulM hb n0 n1) ?_
        repeat walk_at "vs"
        exact hq _ (by omega) (by omega)
def sp_law_sizes : Sp := fun us H Q _ => ∃ h p cs, HeadP us H h p cs ∧ GameQ H Q
theorem at4s {R n : Int} (r1 : 1 ≤ R) : ∃ m : Int, atI [V.int (1 + n / 4 % R), V.int (R / 2), V.int (R / 3 + 1), V.int (R - R / 2)] (n % 4) = some (.int m) := by
  have h0 : n % 4 = 0 ∨ n % 4 = 1 ∨ n % 4 = 2 ∨ n % 4 = 3 := by omega
  rcases h0 with e | e | e | e <;> rw [e] <;> exact ⟨_, rfl⟩
theorem at4k (n : Int) : ∃ k : Nat, atI [V.int 0, V.int 0, V.int 1, V.int 2] (n % 4) = some (.int (k : Nat)) ∧ k ≤ 2 := by
  have h0 : n % 4 = 0 ∨ n % 4 = 1 ∨ n % 4 = 2 ∨ n % 4 = 3 := by omega
  rcases h0 with e | e | e | e <;> rw [e]
  · exact ⟨0, rfl, by omega⟩
  · exact ⟨0, rfl, by omega⟩
  · exact ⟨1, rfl, by omega⟩
  · exact ⟨2, rfl, by omega⟩
theorem cutL_mid {ss : List Int} {i j : Nat} (h : i + j ≤ ss.length) : cutV (ss.map V.int) (some (i : Int)) (some ((i : Int) + (j : Int))) = ((ss.drop i).take j).map V.int := by
  unfold cutV
  rw [show ((i : Int) + (j : Int)) = ((i + j : Nat) : Int) by omega, HT.sIx_nat, HT.sIx_nat, List.length_map, Nat.min_eq_left h, Nat.min_eq_left (show i ≤ ss.length by omega), show i + j - i = j by omega, List.map_take, List.map_drop]
theorem ok_law_sizes (T : Txt K mg a) : FnOk P w K mg base (CXU P w) 3 a.f_law_sizes a.d_law_sizes ["_law_head", "_law_cells"] (sp_law_sizes) := by
  refine T.F_law_sizes.okU sc_law_sizes (fun vs H Q E h => ?_) (fun cdv A outer s H vs Q E hr h => ?_)
  · obtain ⟨h, p, cs, ⟨rfl, h0, h1, hp, hl, hc⟩, hq⟩ := h
    rfl
  · obtain ⟨h, p, cs, ⟨rfl, h0, h1, hp, hl, hc⟩, hq⟩ := h
    have zc_Bags := T.cl_Bags
    have zn_Bags_room := T.na_Bags_room
    have zc_Hire := T.cl_Hire
    have zn_Hire_whole := T.na_Hire_whole
    have zc_Line := T.cl_Line
    have zn_Line_many := T.na_Line_many
    have zc_Shelf := T.cl_Shelf
    have zn_Shelf_things := T.na_Shelf_things
    have zc_Store := T.cl_Store
    have zn_Store_many := T.na_Store_many
    have zc_Ways := T.cl_Ways
    have zn_Ways_many := T.na_Ways_many
    have zn_Ways_toll := T.na_Ways_toll
    refine ⟨_, (pss_cons (ps_set (i := 2) sc_law_sizes.nd rfl (by first | exact Or.inl rfl | exact Or.inr rfl) (pe_op oAddW pe_int (pe_op op_mod (pe_call (ok_law_sum T) (hr.mono (by decide)) (by rfl) T.m_law_sum T.F_law_sum.kp T.b_law_sum .nil passU (pa_cons (pv 0) (pa_cons pe_int pa_nil))) (pe_op op_pow pe_int pe_int))))
      (pss_cons (ps_set (i := 3) sc_law_sizes.nd rfl (by first | exact Or.inl rfl | exact Or.inr rfl) (pe_lst pa_nil))
      (pss_cons (ps_for PassesOwn.never rfl (pi_range1 rfl T.n_range (pa_cons pe_int pa_nil)) (pg_name (i := 4) sc_law_sizes.nd rfl (by first | exact Or.inl rfl | exact Or.inr rfl)) (pss_cons (ps_set (i := 5) sc_law_sizes.nd rfl (by first | exact Or.inl rfl | exact Or.inr rfl) (pe_call (ok_law_mixed T) (hr.mono (by decide)) (by rfl) T.m_law_mixed T.F_law_mixed.kp T.b_law_mixed .nil passU (pa_cons (pe_ix oIx (pe_op oAddW (pe_callTy cList (by rfl) T.n_list PyProof.Rows.boot_list (pa_cons (pv 1) pa_nil)) (pe_op op_rep (pe_lst (pa_cons pe_int pa_nil)) pe_int)) (pv 4) (fun _ _ => rfl)) (pa_cons (pv 4) pa_nil))))
      (pss_cons (ps_set (i := 6) sc_law_sizes.nd rfl (by first | exact Or.inl rfl | exact Or.inr rfl) (pe_ix oIx (pe_lst (pa_cons (pe_op oAddW pe_int (pe_op op_mod (pe_op op_fdivB (pv 5) pe_int) (pv 2))) (pa_cons (pe_op op_fdivB (pv 2) pe_int) (pa_cons (pe_op oAddW (pe_op op_fdivB (pv 2) pe_int) pe_int) (pa_cons (pe_op op_sub (pv 2) (pe_op op_fdivB (pv 2) pe_int)) pa_nil))))) (pe_op op_mod (pv 5) pe_int) (fun _ _ => rfl)))
      (pss_one (ps_expr (pe_bm PySem.F.plainAttrs_list PySem.F.slot_list_append PySem.F.type_list_append mt_append (pv 3) (pa_cons (pe_callB (cMax2 rfl) (by rfl) T.n_max PyProof.Rows.boot_max (pa_cons pe_int (pa_cons (pe_callB (cMin2 rfl) (by rfl) T.n_min PyProof.Rows.boot_min (pa_cons (pv 2) (pa_cons (pv 6) pa_nil))) pa_nil))) pa_nil)))))))
      (pss_cons (ps_set (i := 7) sc_law_sizes.nd rfl (by first | exact Or.inl rfl | exact Or.inr rfl) (pe_ix oIx (pe_lst (pa_cons pe_int (pa_cons pe_int (pa_cons pe_int (pa_cons pe_int pa_nil))))) (pe_op op_mod (pe_op op_fdivB (pv 0) pe_int) pe_int) (fun _ _ => rfl)))
      (pss_one (ps_ret (pe_lst (pa_cons pe_int (pa_cons (pv 2) (pa_cons (pe_callTy cTuple (by rfl) T.n_tuple PyProof.Rows.boot_tuple (pa_cons (pe_callB cSortW (by rfl) T.n_sorted PyProof.Rows.boot_sorted (pa_cons (pe_slice oSl (pv 3) (po_some pe_int) (po_some (pe_op oAddW pe_int (pv 7)))) pa_nil)) pa_nil)) (pa_cons (pe_slice oSl (pv 3) po_none (po_some (pe_callB (cMin2 rfl) (by rfl) T.n_min PyProof.Rows.boot_min (pa_cons (pe_op op_sub pe_int (pv 7)) (pa_cons (pe_callB cLenW (by rfl) T.n_len PySem.boot_len (pa_cons (pv 1) pa_nil)) pa_nil))))) pa_nil))))))))))), ?_⟩
    repeat walk_at "vs"
    refine ⟨h, 60, rfl, by decide, by decide, ibh h0 h1, fun t t0 t1 => ?_⟩
    obtain ⟨R, eR, r1⟩ : ∃ R : Int, 1 + t % 1000000000000000000 = R ∧ 1 ≤ R := ⟨_, rfl, by omega⟩
    repeat walk_at "vs"
    rw [eR]
    intro l1 H1 n1 q1 e1
    repeat walk_at "vs"
    refine ⟨_, rfl, by omega, by omega, for_range (fun i σ H2 => ∃ (u1 u2 u3 u4 : Option V) (ns : List Int), σ = [some (.int h), some (.ref p), some (.int R), some (.ref l1), u1, u2, u3, u4] ∧ Ext H H2 ∧ H2 l1 = some (.lst (ns.map V.int)) ∧ ns.length = i ∧ ∀ x ∈ ns, 1 ≤ x ∧ x ≤ R) ⟨none, none, none, none, [], rfl, e1, q1, rfl, fun x hx => by cases hx⟩ ?_ ?_⟩
    · rintro i σ H2 hi ⟨u1, u2, u3, u4, ns, rfl, x2, q2, ln, hn⟩
      rw [show ((0 : Int) + (i : Nat)) = (i : Nat) by omega]
      have hp2 := x2 _ _ hp
      repeat walk_at "vs"
      refine r_listL hp2 fun l3 H3 n3 q3 e3 => ?_
      repeat walk_at "vs"
      intro l4 H4 n4 q4 e4
      repeat walk_at "vs"
      refine r_rep1 q4 (by decide) (by decide) fun l5 H5 n5 q5 e5 => ?_
      repeat walk_at "vs"
      refine r_addWL ((e4.tr e5) _ _ q3) q5 (by simp; omega) fun l6 H6 n6 q6 e6 => ?_
      rw [show cs.map V.int ++ List.replicate (Int.toNat 7) (V.int 0) = (cs ++ List.replicate 7 0).map V.int by simp] at q6
      have i1 := atI_ints (ns := cs ++ List.replicate 7 0) (k := (i : Nat)) (by omega) (by simp; omega)
      repeat walk_at "vs"
      refine r_ixL q6 i1 ?_
      repeat walk_at "vs"
      refine ⟨_, _, rfl, by omega, by omega, fun n n0 nb => ?_⟩
      obtain ⟨sz, hsz⟩ := at4s (n := n) r1
      repeat walk_at "vs"
      intro l7 H7 n7 q7 e7
      repeat walk_at "vs"
      refine r_ixL q7 hsz ?_
      have x27 := e3.tr (e4.tr (e5.tr (e6.tr e7)))
      have q27 := x27 _ _ q2
      repeat walk_at "vs"
      refine r_append q27 (by rw [List.length_map]; omega) fun H8 q8 b8 => ?_
      repeat walk_at "vs"
      refine ⟨_, _, _, _, ns ++ [max 1 (min R sz)], rfl, Ext.but (x2.tr x27) b8 n1, by rw [q8, List.map_append]; rfl, by simp [ln], fun x hx => ?_⟩
      rcases List.mem_append.mp hx with z | z
      · exact hn x z
      · rw [List.mem_singleton.mp z]; omega
    · rintro σ H2 ⟨u1, u2, u3, u4, ns, rfl, x2, q2, ln, hn⟩
      have ln' : ns.length = 7 := by omega
      obtain ⟨k, hk, k2⟩ := at4k (h / 6)
      repeat walk_at "vs"
      intro l3 H3 n3 q3 e3
      repeat walk_at "vs"
      refine r_ixL q3 hk ?_
      have q23 := e3 _ _ q2
      repeat walk_at "vs"
      refine r_slL q23 fun l4 H4 n4 q4 e4 => ?_
      rw [show (some (5 : Int)) = some ((5 : Nat) : Int) from rfl, show (some ((5 : Int) + (k : Int))) = some (((5 : Nat) : Int) + (k : Int)) from rfl, cutL_mid (by omega)] at q4
      repeat walk_at "vs"
      refine r_srtL q4 (by rw [List.length_take]; omega) fun l5 s5 H5 n5 p5 o5 q5 e5 => ?_
      repeat walk_at "vs"
      refine r_tupleL q5 fun l6 H6 n6 q6 e6 => ?_
      have x36 := e4.tr (e5.tr e6)
      have hp6 := (x2.tr (e3.tr x36)) _ _ hp
      repeat walk_at "vs"
      refine r_lenWL hp6 ?_
      rw [List.length_map]
      repeat walk_at "vs"
      refine r_slL (x36 _ _ q23) fun l7 H7 n7 q7 e7 => ?_
      obtain ⟨c, ec, c5⟩ : ∃ c : Nat, min (5 - (k : Int)) (cs.length : Int) = c ∧ c ≤ 5 := ⟨(min (5 - (k : Int)) (cs.length : Int)).toNat, by omega, by omega⟩
      rw [ec, cutL_to (by omega)] at q7
      repeat walk_at "vs"
      intro gl H8 n8 q8 e8
      have x8 := e7.tr e8
      have pm : ∀ x ∈ s5, 1 ≤ x ∧ x ≤ R := fun x hx => hn x (List.mem_of_mem_drop (List.mem_of_mem_take (p5.mem_iff.mp hx)))
      have l5' : s5.length ≤ 4 := by rw [p5.length_eq, List.length_take]; omega
      exact hq gl (.bags R) (.l s5) ((ns.take c).map .i) H8 ((x2.tr (e3.tr (x36.tr e7))).free n8) ⟨_, _, l7, _, q8, rfl, ⟨l6, rfl, x8 _ _ q6⟩, e8 _ _ q7, all_i _⟩ ⟨r1, ⟨s5, rfl, ⟨o5, pm⟩, l5'⟩, wi_all fun x hx => ⟨x, rfl, hn x (List.mem_of_mem_take hx)⟩, by rw [List.length_map, List.length_take]; omega⟩ (x2.tr (e3.tr (x36.tr x8)))
def sp_law_names : Sp := fun vs H Q _ => ∃ (n m : Int), vs = [.int n, .int m] ∧ 0 ≤ n ∧ 1 ≤ m ∧ m ≤ 8 ∧ ∀ l (ss : List Str) H', H l = none → H' l = some (.lst (ss.map V.str)) → (∀ s ∈ ss, nmS s = true) → (ss.length : Int) = m → Ext H H' → Q (.ref l) H'
theorem ok_law_names (T : Txt K mg a) : FnOk P w K mg base (CXU P w) 1 a.f_law_names a.d_law_names ["_law_number", "_law_many"] (sp_law_names) := by
  refine T.F_law_names.okU sc_law_names (fun vs H Q E h => ?_) (fun cdv A outer s H vs Q E hr h => ?_)
  · obtain ⟨n, m, rfl, n0, m1, m8, hq⟩ := h
    rfl
  · obtain ⟨n, m, rfl, n0, m1, m8, hq⟩ := h
    have zc_Bags := T.cl_Bags
    have zn_Bags_room := T.na_Bags_room
    have zc_Hire := T.cl_Hire
    have zn_Hire_whole := T.na_Hire_whole
    have zc_Line := T.cl_Line
    have zn_Line_many := T.na_Line_many
    have zc_Shelf := T.cl_Shelf
    have zn_Shelf_things := T.na_Shelf_things
    have zc_Store := T.cl_Store
    have zn_Store_many := T.na_Store_many
    have zc_Ways := T.cl_Ways
    have zn_Ways_many := T.na_Ways_many
    have zn_Ways_toll := T.na_Ways_toll
    refine ⟨_, (pss_cons (ps_set (i := 2) sc_law_names.nd rfl (by first | exact Or.inl rfl | exact Or.inr rfl) (pe_op oAddW pe_int (pe_op op_mod (pv 0) pe_int)))
      (pss_cons (ps_set (i := 3) sc_law_names.nd rfl (by first | exact Or.inl rfl | exact Or.inr rfl) (pe_op op_mod (pe_op op_fdivB (pv 0) pe_int) (pv 2)))
      (pss_cons (ps_set (i := 4) sc_law_names.nd rfl (by first | exact Or.inl rfl | exact Or.inr rfl) pe_str)
      (pss_cons (ps_set (i := 5) sc_law_names.nd rfl (by first | exact Or.inl rfl | exact Or.inr rfl) (pe_ix oIx (pv 4) (pe_op op_mod (pe_op op_fdivB (pv 0) pe_int) pe_int) (fun _ _ => rfl)))
      (pss_cons (ps_set (i := 6) sc_law_names.nd rfl (by first | exact Or.inl rfl | exact Or.inr rfl) (pe_lst pa_nil))
      (pss_cons (ps_for PassesOwn.never rfl (pi_range1 rfl T.n_range (pa_cons (pv 1) pa_nil)) (pg_name (i := 7) sc_law_names.nd rfl (by first | exact Or.inl rfl | exact Or.inr rfl)) (pss_cons (ps_set (i := 8) sc_law_names.nd rfl (by first | exact Or.inl rfl | exact Or.inr rfl) (pe_ix oIx (pv 4) (pe_op op_mod (pe_op oAddW (pe_op op_fdivB (pv 0) pe_int) (pe_op oMulW pe_int (pv 7))) pe_int) (fun _ _ => rfl)))
      (pss_one (ps_expr (pe_bm PySem.F.plainAttrs_list PySem.F.slot_list_append PySem.F.type_list_append mt_append (pv 6) (pa_cons (pe_op oAddW (pe_op oAddW (pe_op oMulW (pv 5) (pv 3)) (pv 8)) (pe_op oMulW (pv 5) (pe_op op_sub (pe_op op_sub (pv 2) (pv 3)) pe_int))) pa_nil))))))
      (pss_one (ps_ret (pv 6))))))))), ?_⟩
    have f0 : 0 ≤ n / 64 % 26 := by omega
    have f1 : n / 64 % 26 < 26 := by omega
    obtain ⟨size, es, s1, s8⟩ : ∃ size : Nat, 1 + n % 8 = size ∧ 1 ≤ size ∧ size ≤ 8 := ⟨(1 + n % 8).toNat, by omega, by omega, by omega⟩
    obtain ⟨f, ef⟩ : ∃ f : Nat, 97 + (n / 64 % 26).toNat = f := ⟨_, rfl⟩
    have sp : (0 : Int) < size := by omega
    have b0 := Int.emod_nonneg (n / 8) (show (size : Int) ≠ 0 by omega)
    have b1 := Int.emod_lt_of_pos (n / 8) sp
    obtain ⟨a0, ea, a1⟩ : ∃ a0 : Nat, n / 8 % (size : Int) = a0 ∧ a0 < size := ⟨(n / 8 % (size : Int)).toNat, by omega, by omega⟩
    have ok : WdOk 0 size f a0 := ⟨s1, s8, by omega, by omega, a1⟩
    repeat walk_at "vs"
    rw [es, ea]
    refine r_ixS1 (by rw [abc_len]; omega) (abc_at f0 f1) ?_
    rw [ef]
    repeat walk_at "vs"
    intro l H1 n1 q1 e1
    repeat walk_at "vs"
    refine ⟨_, rfl, by omega, by omega, for_range (fun i σ H2 => (∃ u1 u2, σ = [some (.int n), some (.int m), some (.int (size : Nat)), some (.int (a0 : Nat)), some (.str (Str.ofString "abcdefghijklmnopqrstuvwxyz")), some (.str ⟨#[f]⟩), some (.ref l), u1, u2]) ∧ Ext H H2 ∧ ∃ ss : List Str, H2 l = some (.lst (ss.map V.str)) ∧ ss.length = i ∧ ∀ s ∈ ss, nmS s = true)
      ⟨⟨none, none, rfl⟩, e1, [], q1, rfl, fun s h => by cases h⟩ ?_ ?_⟩
    · rintro i σ H2 hi ⟨⟨u1, u2, rfl⟩, x2, ss, q2, ls, ns⟩
      rw [show ((0 : Int) + (i : Nat)) = (i : Nat) by omega]
      obtain ⟨c0, ec⟩ : ∃ c0 : Nat, n / 1664 + 3 * (i : Int) = c0 := ⟨(n / 1664 + 3 * (i : Int)).toNat, by omega⟩
      repeat walk_at "vs"
      rw [ec]
      refine r_ixS1 (by rw [abc_len]; omega) (abc_at (i := (c0 : Int) % 26) (by omega) (by omega)) ?_
      have esg : 97 + ((c0 : Int) % 26).toNat = 97 + (c0 + 7 * 0) % 26 := by omega
      rw [esg]
      have hl1 := mulS_len ⟨#[f]⟩ a0
      have hl2 := mulS_len ⟨#[f]⟩ (size - a0 - 1)
      rw [one_len, Nat.mul_one] at hl1 hl2
      repeat walk_at "vs"
      refine r_mulWS (by omega) (by omega) (by rw [one_len]; omega) ?_
      rw [Int.toNat_natCast]
      repeat walk_at "vs"
      refine r_addWS (by rw [hl1, one_len]; omega) ?_
      repeat walk_at "vs"
      refine r_mulWS (by omega) (by omega) (by rw [one_len]; omega) ?_
      rw [show ((size : Int) - (a0 : Int) - 1).toNat = size - a0 - 1 by omega]
      have hl3 : (mulS ⟨#[f]⟩ a0 ++ (⟨#[97 + (c0 + 7 * 0) % 26]⟩ : Str)).length = a0 + 1 := by
        show (mulS ⟨#[f]⟩ a0 ++ (⟨#[97 + (c0 + 7 * 0) % 26]⟩ : Str)).cps.size = _
        rw [← Array.length_toList, Str_app, mul_one]
        simp
      repeat walk_at "vs"
      refine r_addWS (by rw [hl3, hl2]; omega) ?_
      have ewd : mulS ⟨#[f]⟩ a0 ++ (⟨#[97 + (c0 + 7 * 0) % 26]⟩ : Str) ++ mulS ⟨#[f]⟩ (size - a0 - 1) = wdS 0 size f a0 c0 0 := by
        apply str_ext
        rw [Str_app, Str_app, mul_one, mul_one]
        show _ = (wdN 0 size f a0 c0 0).toArray.toList
        unfold wdN
        skip; rw [if_neg (by decide), if_pos rfl]
        simp
      rw [ewd]
      repeat walk_at "vs"
      refine r_append q2 (by rw [List.length_map]; omega) fun H4 q4 b4 => ?_
      repeat walk_at "vs"
      refine ⟨⟨_, _, rfl⟩, Ext.but x2 b4 n1, ss ++ [wdS 0 size f a0 c0 0], by rw [q4, List.map_append]; rfl, by simp [ls], fun s hs => ?_⟩
      rcases List.mem_append.mp hs with h | h
      · exact ns s h
      · rw [List.mem_singleton.mp h]
        exact wd_nm ok (by omega)
    · rintro σ H2 ⟨⟨u1, u2, rfl⟩, x2, ss, q2, ls, ns⟩
      repeat walk_at "vs"
      exact hq l ss H2 n1 q2 ns (by omega) x2
def sp_law_pages : Sp := fun us H Q _ => ∃ h p cs, HeadP us H h p cs ∧ GameQ H Q
theorem cut_mid {ss : List Str} {i j : Nat} (h : i + j ≤ ss.length) : cutV (ss.map V.str) (some (i : Int)) (some ((i : Int) + (j : Int))) = ((ss.drop i).take j).map V.str := by
  unfold cutV
  rw [show ((i : Int) + (j : Int)) = ((i + j : Nat) : Int) by omega, HT.sIx_nat, HT.sIx_nat, List.length_map, Nat.min_eq_left h, Nat.min_eq_left (show i ≤ ss.length by omega), show i + j - i = j by omega, List.map_take, List.map_drop]
theorem ok_law_pages (T : Txt K mg a) : FnOk P w K mg base (CXU P w) 2 a.f_law_pages a.d_law_pages ["_law_head", "_law_cells"] (sp_law_pages) := by
  refine T.F_law_pages.okU sc_law_pages (fun vs H Q E h => ?_) (fun cdv A outer s H vs Q E hr h => ?_)
  · obtain ⟨h, p, cs, ⟨rfl, h0, h1, hp, hl, hc⟩, hq⟩ := h
    rfl
  · obtain ⟨h, p, cs, ⟨rfl, h0, h1, hp, hl, hc⟩, hq⟩ := h
    refine ⟨_, (pss_cons (ps_set (i := 2) sc_law_pages.nd rfl (by first | exact Or.inl rfl | exact Or.inr rfl) (pe_op oAddW pe_int (pe_op op_mod (pe_op op_fdivB (pv 0) pe_int) pe_int)))
      (pss_cons (ps_set (i := 3) sc_law_pages.nd rfl (by first | exact Or.inl rfl | exact Or.inr rfl) (pe_call (ok_law_names T) (hr.mono (by decide)) (by rfl) T.m_law_names T.F_law_names.kp T.b_law_names .nil passU (pa_cons (pe_call (ok_law_mixed T) (hr.mono (by decide)) (by rfl) T.m_law_mixed T.F_law_mixed.kp T.b_law_mixed .nil passU (pa_cons (pv 0) (pa_cons pe_int pa_nil))) (pa_cons (pe_op oAddW (pv 2) pe_int) pa_nil))))
      (pss_cons (ps_setComp (i := 4) (["_law_k"] : List Str) (["_law_names_here", "_law_cells", "_law_many"] : List Str) [3, 1, 2] sc_law_pages.nd rfl (Or.inl rfl) rfl ⟨rfl, by decide +kernel, by decide +kernel, by rfl, ⟨⟨rfl, by first | exact Or.inl rfl | exact Or.inr rfl, by first | exact Or.inl rfl | exact Or.inr rfl⟩, ⟨rfl, by first | exact Or.inl rfl | exact Or.inr rfl, by first | exact Or.inl rfl | exact Or.inr rfl⟩, ⟨rfl, by first | exact Or.inl rfl | exact Or.inr rfl, by first | exact Or.inl rfl | exact Or.inr rfl⟩, trivial⟩⟩ (pi_range1 rfl T.n_range (pa_cons (pe_callB cLenW (by rfl) T.n_len PySem.boot_len (pa_cons (pv 1) pa_nil)) pa_nil)) (fun _ _ _ _ => ⟨(pg_name (i := 0) (by show ((["_law_k"] : List Str) ++ (["_law_names_here", "_law_cells", "_law_many"] : List Str)).Nodup; decide +kernel) rfl (by first | exact Or.inl rfl | exact Or.inr rfl)), (show PTs _ [] [] from trivial), (pe_ix oIx (pv 1) (pe_op op_mod (pe_call (ok_law_mixed T) (hr.mono (by decide)) (by rfl) T.m_law_mixed T.F_law_mixed.kp T.b_law_mixed .nil passU (pa_cons (pe_ix oIx (pv 2) (pv 0) (fun _ _ => rfl)) (pa_cons (pv 0) pa_nil))) (pe_op oAddW (pv 3) pe_int)) (fun _ _ => rfl))⟩))
      (pss_one (ps_ret (pe_lst (pa_cons pe_int (pa_cons (pv 2) (pa_cons (pe_callTy cTuple (by rfl) T.n_tuple PyProof.Rows.boot_tuple (pa_cons (pe_callB cSortW (by rfl) T.n_sorted PyProof.Rows.boot_sorted (pa_cons (pe_slice oSl (pv 3) (po_some pe_int) (po_some (pe_op oAddW pe_int (pv 2)))) pa_nil)) pa_nil)) (pa_cons (pv 4) pa_nil)))))))))), ?_⟩
    obtain ⟨m, em, m1, m4⟩ : ∃ m : Nat, 1 + h / 6 % 4 = m ∧ 1 ≤ m ∧ m ≤ 4 := ⟨(1 + h / 6 % 4).toNat, by omega, by omega, by omega⟩
    repeat walk_at "vs"
    rw [em]
    refine ⟨_, _, rfl, by omega, by omega, fun n n0 n1 => ?_⟩
    repeat walk_at "vs"
    refine ⟨_, _, rfl, n0, by omega, by omega, fun pl ss H2 n2 q2 ns ls e2 => ?_⟩
    have ls' : ss.length = m + 3 := by omega
    have hp2 := e2 _ _ hp
    repeat walk_at "vs"
    refine r_lenWL hp2 ?_
    rw [List.length_map]
    repeat walk_at "vs"
    refine ⟨_, rfl, by omega, by omega, fun acc hn _ _ _ _ => comp_range (by omega) hn (fun j ys _ => ∃ ws : List Str, ys = ws.map V.str ∧ ws.length = j ∧ ∀ w ∈ ws, w ∈ ss) ⟨[], rfl, rfl, fun w hw => by cases hw⟩ (fun _ _ _ _ _ h => h) (fun j ys H' _ h => by obtain ⟨ws, rfl, lw, _⟩ := h; rw [List.length_map]; omega) ?_ ?_⟩
    · rintro j ys H9 hj e ⟨ws, rfl, lw, hw⟩ Y N hY hN
      rw [show ((0 : Int) + (j : Nat)) = (j : Nat) by omega]
      have i1 := atI_ints (ns := cs) (k := (j : Nat)) (by omega) (by omega)
      repeat walk_at "vs"
      refine r_ixL (e _ _ hp2) i1 ?_
      repeat walk_at "vs"
      refine ⟨_, _, rfl, by omega, by omega, fun n n0 n1 => ?_⟩
      have b0 := Int.emod_nonneg n (show (m : Int) + 3 ≠ 0 by omega)
      have b1 := Int.emod_lt_of_pos n (show (0 : Int) < (m : Int) + 3 by omega)
      repeat walk_at "vs"
      refine r_ixL (e _ _ q2) (atI_strs b0 (by omega)) ?_
      refine hY _ _ Ext.rfl' ⟨ws ++ [_], by rw [List.map_append]; rfl, by simp [lw], fun w hw' => ?_⟩
      rcases List.mem_append.mp hw' with z | z
      · exact hw w z
      · rw [List.mem_singleton.mp z]; exact getD_in (by omega)
    · rintro ys H9 e9 ha ⟨ws, rfl, lw, hw⟩
      repeat walk_at "vs"
      refine r_slL (e9 _ _ q2) fun l3 H3 n3 q3 e3 => ?_
      rw [show (some (2 : Int)) = some ((2 : Nat) : Int) from rfl, show (some ((2 : Int) + (m : Int))) = some (((2 : Nat) : Int) + (m : Int)) from rfl, cut_mid (by omega)] at q3
      repeat walk_at "vs"
      refine r_sortWL q3 (by rw [List.length_take]; omega) fun l4 s4 H4 n4 p4 o4 q4 e4 => ?_
      repeat walk_at "vs"
      refine r_tupleL q4 fun l5 H5 n5 q5 e5 => ?_
      repeat walk_at "vs"
      intro gl H10 n10 q10 e10
      have x10 := e3.tr (e4.tr (e5.tr e10))
      have l4' : s4.length = m := by rw [p4.length_eq, List.length_take, List.length_drop]; omega
      exact hq gl (.store m) (.t s4) (ws.map .s) H10 ((e2.tr (e9.tr (e3.tr (e4.tr e5)))).free n10) ⟨_, _, acc, _, q10, rfl, ⟨l5, rfl, e10 _ _ q5⟩, x10 _ _ ha, all_s ws⟩ ⟨⟨m1, m4⟩, ⟨_, rfl, l4', fun x hx => ns x (List.mem_of_mem_drop (List.mem_of_mem_take (p4.mem_iff.mp hx)))⟩, ws_all fun x hx => ⟨x, rfl, ns x (hw x hx)⟩, by rw [List.length_map, lw]; omega⟩ (e2.tr (e9.tr x10))
def sp_law_charged : Sp := fun us H Q _ => ∃ h p cs, HeadP us H h p cs ∧ GameQ H Q
theorem at4c {t : Int} (t0 : 0 ≤ t) (n : Int) : ∃ m : Int, atI [V.int 3, V.int 3, V.int (t + 2), V.int (1000000000000000000 + 1)] (n % 4) = some (.int m) ∧ 1 ≤ m := by
  have h0 : n % 4 = 0 ∨ n % 4 = 1 ∨ n % 4 = 2 ∨ n % 4 = 3 := by omega
  rcases h0 with e | e | e | e <;> rw [e]
  · exact ⟨3, rfl, by omega⟩
  · exact ⟨3, rfl, by omega⟩
  · exact ⟨t + 2, rfl, by omega⟩
  · exact ⟨1000000000000000000 + 1, rfl, by omega⟩
theorem ok_law_charged (T : Txt K mg a) : FnOk P w K mg base (CXU P w) 3 a.f_law_charged a.d_law_charged ["_law_head", "_law_cells"] (sp_law_charged) := by
  refine T.F_law_charged.okU sc_law_charged (fun vs H Q E h => ?_) (fun cdv A outer s H vs Q E hr h => ?_)
  · obtain ⟨h, p, cs, ⟨rfl, h0, h1, hp, hl, hc⟩, hq⟩ := h
    rfl
  · obtain ⟨h, p, cs, ⟨rfl, h0, h1, hp, hl, hc⟩, hq⟩ := h
    have zc_Bags := T.cl_Bags
    have zn_Bags_room := T.na_Bags_room
    have zc_Hire := T.cl_Hire
    have zn_Hire_whole := T.na_Hire_whole
    have zc_Line := T.cl_Line
    have zn_Line_many := T.na_Line_many
    have zc_Shelf := T.cl_Shelf
    have zn_Shelf_things := T.na_Shelf_things
    have zc_Store := T.cl_Store
    have zn_Store_many := T.na_Store_many
    have zc_Ways := T.cl_Ways
    have zn_Ways_many := T.na_Ways_many
    have zn_Ways_toll := T.na_Ways_toll
    refine ⟨_, (pss_cons (ps_set (i := 2) sc_law_charged.nd rfl (by first | exact Or.inl rfl | exact Or.inr rfl) (pe_op oAddW pe_int (pe_op op_mod (pe_op op_fdivB (pv 0) pe_int) pe_int)))
      (pss_cons (ps_set (i := 3) sc_law_charged.nd rfl (by first | exact Or.inl rfl | exact Or.inr rfl) (pe_call (ok_law_sum T) (hr.mono (by decide)) (by rfl) T.m_law_sum T.F_law_sum.kp T.b_law_sum .nil passU (pa_cons (pv 0) (pa_cons pe_int pa_nil))))
      (pss_cons (ps_set (i := 4) sc_law_charged.nd rfl (by first | exact Or.inl rfl | exact Or.inr rfl) (pe_lst pa_nil))
      (pss_cons (ps_for PassesOwn.never rfl (pi_range1 rfl T.n_range (pa_cons (pe_callB cLenW (by rfl) T.n_len PySem.boot_len (pa_cons (pv 1) pa_nil)) pa_nil)) (pg_name (i := 5) sc_law_charged.nd rfl (by first | exact Or.inl rfl | exact Or.inr rfl)) (pss_cons (ps_set (i := 6) sc_law_charged.nd rfl (by first | exact Or.inl rfl | exact Or.inr rfl) (pe_call (ok_law_mixed T) (hr.mono (by decide)) (by rfl) T.m_law_mixed T.F_law_mixed.kp T.b_law_mixed .nil passU (pa_cons (pe_ix oIx (pv 1) (pv 5) (fun _ _ => rfl)) (pa_cons (pv 5) pa_nil))))
      (pss_cons (ps_set (i := 7) sc_law_charged.nd rfl (by first | exact Or.inl rfl | exact Or.inr rfl) (pe_ix oIx (pe_lst (pa_cons pe_int (pa_cons pe_int (pa_cons (pe_op oAddW (pv 3) pe_int) (pa_cons (pe_op oAddW (pe_op op_pow pe_int pe_int) pe_int) pa_nil))))) (pe_op op_mod (pv 6) pe_int) (fun _ _ => rfl)))
      (pss_one (ps_expr (pe_bm PySem.F.plainAttrs_list PySem.F.slot_list_append PySem.F.type_list_append mt_append (pv 4) (pa_cons (pe_callTy cTuple (by rfl) T.n_tuple PyProof.Rows.boot_tuple (pa_cons (pe_comp (["_law_j"] : List Str) (["_law_cells", "_law_k", "_law_wide"] : List Str) [1, 5, 7] rfl ⟨rfl, by decide +kernel, by decide +kernel, by rfl, ⟨⟨rfl, by first | exact Or.inl rfl | exact Or.inr rfl, by first | exact Or.inl rfl | exact Or.inr rfl⟩, ⟨rfl, by first | exact Or.inl rfl | exact Or.inr rfl, by first | exact Or.inl rfl | exact Or.inr rfl⟩, ⟨rfl, by first | exact Or.inl rfl | exact Or.inr rfl, by first | exact Or.inl rfl | exact Or.inr rfl⟩, trivial⟩⟩ (pi_range1 rfl T.n_range (pa_cons (pv 2) pa_nil)) (fun _ _ _ _ => ⟨(pg_name (i := 0) (by show ((["_law_j"] : List Str) ++ (["_law_cells", "_law_k", "_law_wide"] : List Str)).Nodup; decide +kernel) rfl (by first | exact Or.inl rfl | exact Or.inr rfl)), (show PTs _ [] [] from trivial), (pe_op op_mod (pe_call (ok_law_mixed T) (hr.mono (by decide)) (by rfl) T.m_law_mixed T.F_law_mixed.kp T.b_law_mixed .nil passU (pa_cons (pe_ix oIx (pv 1) (pv 2) (fun _ _ => rfl)) (pa_cons (pe_op oAddW (pe_op oAddW (pv 2) (pe_op oMulW pe_int (pv 0))) pe_int) pa_nil))) (pv 3))⟩)) pa_nil)) pa_nil)))))))
      (pss_one (ps_ret (pe_lst (pa_cons pe_int (pa_cons (pe_tup (pa_cons (pv 2) (pa_cons (pv 3) pa_nil))) (pa_cons (pe_op op_mod (pe_op op_fdivB (pv 0) pe_int) (pv 2)) (pa_cons (pv 4) pa_nil))))))))))), ?_⟩
    obtain ⟨m, em, m1, m4⟩ : ∃ m : Nat, 1 + h / 6 % 4 = m ∧ 1 ≤ m ∧ m ≤ 4 := ⟨(1 + h / 6 % 4).toNat, by omega, by omega, by omega⟩
    repeat walk_at "vs"
    refine ⟨h, 40, rfl, by decide, by decide, ibh h0 h1, fun tl t0 t1 => ?_⟩
    repeat walk_at "vs"
    rw [em]
    intro l1 H1 n1 q1 e1
    repeat walk_at "vs"
    refine r_lenWL (e1 _ _ hp) ?_
    rw [List.length_map]
    repeat walk_at "vs"
    refine ⟨_, rfl, by omega, by omega, for_range (fun i σ H2 => ∃ (u1 u2 u3 : Option V) (wvs : List V) (ws : List WsG), σ = [some (.int h), some (.ref p), some (.int (m : Nat)), some (.int tl), some (.ref l1), u1, u2, u3] ∧ Ext H H2 ∧ H2 l1 = some (.lst wvs) ∧ AllR (WsG.at_ H2) ws wvs ∧ ws.length = i ∧ ∀ w ∈ ws, (Gm.wys m tl).okW w) ⟨none, none, none, [], [], rfl, e1, q1, trivial, rfl, fun w hw => by cases hw⟩ ?_ ?_⟩
    · rintro i σ H2 hi ⟨u1, u2, u3, wvs, ws, rfl, x2, q2, hws, lw, okw⟩
      rw [show ((0 : Int) + (i : Nat)) = (i : Nat) by omega]
      have i1 := atI_ints (ns := cs) (k := (i : Nat)) (by omega) (by omega)
      have hp2 := x2 _ _ hp
      repeat walk_at "vs"
      refine r_ixL hp2 i1 ?_
      repeat walk_at "vs"
      refine ⟨_, _, rfl, by omega, by omega, fun n n0 nb => ?_⟩
      obtain ⟨wd, hwd, w1⟩ := at4c t0 n
      repeat walk_at "vs"
      intro l3 H3 n3 q3 e3
      repeat walk_at "vs"
      refine r_ixL q3 hwd ?_
      have hp3 := e3 _ _ hp2
      repeat walk_at "vs"
      refine ⟨_, rfl, by omega, by omega, fun acc hn _ _ _ _ => comp_someR (fun _ => True) (by omega) hn (fun j H5 Y hj e hY => ?_) fun xs H4 lx _ e4 ha => ?_⟩
      · repeat walk_at "vs"
        refine r_ixL (e _ _ hp3) i1 ?_
        repeat walk_at "vs"
        refine ⟨_, _, rfl, by omega, by omega, fun k k0 k1 => ?_⟩
        repeat walk_at "vs"
        exact hY _ _ trivial Ext.rfl'
      repeat walk_at "vs"
      refine r_tupleL ha fun l5 H5 n5 q5 e5 => ?_
      have x25 := e3.tr (e4.tr e5)
      have q25 := x25 _ _ q2
      have lv := hws.len
      repeat walk_at "vs"
      refine r_append q25 (by omega) fun H6 q6 b6 => ?_
      repeat walk_at "vs"
      refine ⟨_, _, _, _, ws ++ [.l xs], rfl, Ext.but (x2.tr x25) b6 n1, q6, (AllR.snoc (f := WsG.at_ H5) (show WsG.at_ H5 (.l xs) (.ref l5) from ⟨l5, rfl, q5⟩) (hws.imp fun k => WsG.mono x25 k)).imp fun k => WsG.but q25 b6 k, by simp [lw], fun w hw => ?_⟩
      rcases List.mem_append.mp hw with z | z
      · exact okw w z
      · rw [List.mem_singleton.mp z]; exact ⟨xs, rfl, by omega⟩
    · rintro σ H2 ⟨u1, u2, u3, wvs, ws, rfl, x2, q2, hws, lw, okw⟩
      have a0 := Int.emod_nonneg (h / 24) (show (m : Int) ≠ 0 by omega)
      have a1 := Int.emod_lt_of_pos (h / 24) (show (0 : Int) < (m : Int) by omega)
      repeat walk_at "vs"
      intro l3 H3 n3 q3 e3
      repeat walk_at "vs"
      intro gl H4 n4 q4 e4
      have x4 := e3.tr e4
      exact hq gl (.wys m tl) (.i _) ws H4 ((x2.tr e3).free n4) ⟨_, _, l1, _, q4, ⟨l3, rfl, e4 _ _ q3⟩, rfl, x4 _ _ q2, hws.imp fun k => WsG.mono x4 k⟩ ⟨⟨m1, m4⟩, ⟨_, rfl, a0, a1⟩, okw, by omega⟩ (x2.tr x4)
def sp_law_things : Sp := fun us H Q _ => ∃ h p cs, HeadP us H h p cs ∧ GameQ H Q
theorem at8m (n : Int) : ∃ m : Nat, atI [V.int 1, V.int 2, V.int 3, V.int 3, V.int 3, V.int 3, V.int 2, V.int 4] (n % 8) = some (.int (m : Nat)) ∧ 1 ≤ m ∧ m ≤ 4 := by
  have h0 : n % 8 = 0 ∨ n % 8 = 1 ∨ n % 8 = 2 ∨ n % 8 = 3 ∨ n % 8 = 4 ∨ n % 8 = 5 ∨ n % 8 = 6 ∨ n % 8 = 7 := by omega
  rcases h0 with e | e | e | e | e | e | e | e <;> rw [e]
  · exact ⟨1, rfl, by omega, by omega⟩
  · exact ⟨2, rfl, by omega, by omega⟩
  · exact ⟨3, rfl, by omega, by omega⟩
  · exact ⟨3, rfl, by omega, by omega⟩
  · exact ⟨3, rfl, by omega, by omega⟩
  · exact ⟨3, rfl, by omega, by omega⟩
  · exact ⟨2, rfl, by omega, by omega⟩
  · exact ⟨4, rfl, by omega, by omega⟩
theorem at4r {m : Nat} (m1 : 1 ≤ m) (m3 : m ≤ 4) : ∃ r : Int, atI [V.int 62, V.int 62, V.int 62, V.int 3] ((m : Int) - 1) = some (.int r) ∧ 0 ≤ r := by
  have h0 : m = 1 ∨ m = 2 ∨ m = 3 ∨ m = 4 := by omega
  rcases h0 with rfl | rfl | rfl | rfl
  · exact ⟨62, rfl, by omega⟩
  · exact ⟨62, rfl, by omega⟩
  · exact ⟨62, rfl, by omega⟩
  · exact ⟨3, rfl, by omega⟩
theorem ok_law_things (T : Txt K mg a) : FnOk P w K mg base (CXU P w) 2 a.f_law_things a.d_law_things ["_law_head", "_law_cells"] (sp_law_things) := by
  refine T.F_law_things.okU sc_law_things (fun vs H Q E h => ?_) (fun cdv A outer s H vs Q E hr h => ?_)
  · obtain ⟨h, p, cs, ⟨rfl, h0, h1, hp, hl, hc⟩, hq⟩ := h
    rfl
  · obtain ⟨h, p, cs, ⟨rfl, h0, h1, hp, hl, hc⟩, hq⟩ := h
    refine ⟨_, (pss_cons (ps_set (i := 2) sc_law_things.nd rfl (by first | exact Or.inl rfl | exact Or.inr rfl) (pe_ix oIx (pe_lst (pa_cons pe_int (pa_cons pe_int (pa_cons pe_int (pa_cons pe_int (pa_cons pe_int (pa_cons pe_int (pa_cons pe_int (pa_cons pe_int pa_nil))))))))) (pe_op op_mod (pe_op op_fdivB (pv 0) pe_int) pe_int) (fun _ _ => rfl)))
      (pss_cons (ps_set (i := 3) sc_law_things.nd rfl (by first | exact Or.inl rfl | exact Or.inr rfl) (pe_call (ok_law_names T) (hr.mono (by decide)) (by rfl) T.m_law_names T.F_law_names.kp T.b_law_names .nil passU (pa_cons (pe_call (ok_law_mixed T) (hr.mono (by decide)) (by rfl) T.m_law_mixed T.F_law_mixed.kp T.b_law_mixed .nil passU (pa_cons (pv 0) (pa_cons pe_int pa_nil))) (pa_cons (pv 2) pa_nil))))
      (pss_cons (ps_set (i := 4) sc_law_things.nd rfl (by first | exact Or.inl rfl | exact Or.inr rfl) (pe_op op_mod (pe_op op_fdivB (pv 0) pe_int) (pv 2)))
      (pss_cons (ps_set (i := 5) sc_law_things.nd rfl (by first | exact Or.inl rfl | exact Or.inr rfl) (pe_callTy cTuple (by rfl) T.n_tuple PyProof.Rows.boot_tuple (pa_cons (pe_op oAddW (pe_slice oSl (pv 3) (po_some (pv 4)) po_none) (pe_slice oSl (pv 3) po_none (po_some (pv 4)))) pa_nil)))
      (pss_cons (ps_set (i := 6) sc_law_things.nd rfl (by first | exact Or.inl rfl | exact Or.inr rfl) (pe_ix oIx (pe_lst (pa_cons pe_int (pa_cons pe_int (pa_cons pe_int (pa_cons pe_int pa_nil))))) (pe_op op_sub (pv 2) pe_int) (fun _ _ => rfl)))
      (pss_one (ps_ret (pe_lst (pa_cons pe_int (pa_cons (pe_callTy cTuple (by rfl) T.n_tuple PyProof.Rows.boot_tuple (pa_cons (pv 3) pa_nil)) (pa_cons (pv 5) (pa_cons (pe_comp (["_law_k"] : List Str) (["_law_names_here", "_law_cells", "_law_many"] : List Str) [3, 1, 2] rfl ⟨rfl, by decide +kernel, by decide +kernel, by rfl, ⟨⟨rfl, by first | exact Or.inl rfl | exact Or.inr rfl, by first | exact Or.inl rfl | exact Or.inr rfl⟩, ⟨rfl, by first | exact Or.inl rfl | exact Or.inr rfl, by first | exact Or.inl rfl | exact Or.inr rfl⟩, ⟨rfl, by first | exact Or.inl rfl | exact Or.inr rfl, by first | exact Or.inl rfl | exact Or.inr rfl⟩, trivial⟩⟩ (pi_range1 rfl T.n_range (pa_cons (pe_callB (cMin2 rfl) (by rfl) T.n_min PyProof.Rows.boot_min (pa_cons (pv 6) (pa_cons (pe_callB cLenW (by rfl) T.n_len PySem.boot_len (pa_cons (pv 1) pa_nil)) pa_nil))) pa_nil)) (fun _ _ _ _ => ⟨(pg_name (i := 0) (by show ((["_law_k"] : List Str) ++ (["_law_names_here", "_law_cells", "_law_many"] : List Str)).Nodup; decide +kernel) rfl (by first | exact Or.inl rfl | exact Or.inr rfl)), (show PTs _ [] [] from trivial), (pe_ix oIx (pv 1) (pe_op op_mod (pe_call (ok_law_mixed T) (hr.mono (by decide)) (by rfl) T.m_law_mixed T.F_law_mixed.kp T.b_law_mixed .nil passU (pa_cons (pe_ix oIx (pv 2) (pv 0) (fun _ _ => rfl)) (pa_cons (pv 0) pa_nil))) (pv 3)) (fun _ _ => rfl))⟩)) pa_nil)))))))))))), ?_⟩
    obtain ⟨m, hm, m1, m4⟩ := at8m (h / 6)
    obtain ⟨rm, hrm, r0⟩ := at4r m1 m4
    have a0 := Int.emod_nonneg (h / 48) (show (m : Int) ≠ 0 by omega)
    have a1 := Int.emod_lt_of_pos (h / 48) (show (0 : Int) < (m : Int) by omega)
    obtain ⟨tn, et, t1⟩ : ∃ tn : Nat, h / 48 % (m : Int) = tn ∧ tn < m := ⟨(h / 48 % (m : Int)).toNat, by omega, by omega⟩
    repeat walk_at "vs"
    intro l1 H1 n1 q1 e1
    repeat walk_at "vs"
    refine r_ixL q1 hm ?_
    repeat walk_at "vs"
    refine ⟨_, _, rfl, by omega, by omega, fun n n0 n1 => ?_⟩
    repeat walk_at "vs"
    refine ⟨_, _, rfl, n0, by omega, by omega, fun pl ss H2 n2 q2 ns ls e2 => ?_⟩
    have ls' : ss.length = m := by omega
    repeat walk_at "vs"
    rw [et]
    refine r_slL q2 fun l3 H3 n3 q3 e3 => ?_
    rw [cut_from (by omega)] at q3
    have q23 := e3 _ _ q2
    repeat walk_at "vs"
    refine r_slL q23 fun l4 H4 n4 q4 e4 => ?_
    rw [cut_to (by omega)] at q4
    repeat walk_at "vs"
    refine r_addWL (e4 _ _ q3) q4 (by simp; omega) fun l5 H5 n5 q5 e5 => ?_
    rw [← List.map_append] at q5
    repeat walk_at "vs"
    refine r_tupleL q5 fun l6 H6 n6 q6 e6 => ?_
    have x26 := e3.tr (e4.tr (e5.tr e6))
    have x6 := e1.tr (e2.tr x26)
    have q26 := x26 _ _ q2
    have hp6 := x6 _ _ hp
    repeat walk_at "vs"
    intro l7 H7 n7 q7 e7
    repeat walk_at "vs"
    refine r_ixL q7 hrm ?_
    repeat walk_at "vs"
    refine r_tupleL (e7 _ _ q26) fun l8 H8 n8 q8 e8 => ?_
    have x78 := e7.tr e8
    repeat walk_at "vs"
    refine r_lenWL (x78 _ _ hp6) ?_
    rw [List.length_map]
    repeat walk_at "vs"
    refine ⟨_, rfl, by omega, by omega, fun acc hn _ _ _ _ => comp_range (by omega) hn (fun j ys _ => ∃ ws : List Str, ys = ws.map V.str ∧ ws.length = j ∧ ∀ w ∈ ws, w ∈ ss) ⟨[], rfl, rfl, fun w hw => by cases hw⟩ (fun _ _ _ _ _ h => h) (fun j ys H' _ h => by obtain ⟨ws, rfl, lw, _⟩ := h; rw [List.length_map]; omega) ?_ ?_⟩
    · rintro j ys H9 hj e ⟨ws, rfl, lw, hw⟩ Y N hY hN
      rw [show ((0 : Int) + (j : Nat)) = (j : Nat) by omega]
      have i1 := atI_ints (ns := cs) (k := (j : Nat)) (by omega) (by omega)
      repeat walk_at "vs"
      refine r_ixL ((x78.tr e) _ _ hp6) i1 ?_
      repeat walk_at "vs"
      refine ⟨_, _, rfl, by omega, by omega, fun n n0 n1 => ?_⟩
      have b0 := Int.emod_nonneg n (show (m : Int) ≠ 0 by omega)
      have b1 := Int.emod_lt_of_pos n (show (0 : Int) < (m : Int) by omega)
      repeat walk_at "vs"
      refine r_ixL ((x78.tr e) _ _ q26) (atI_strs b0 (by omega)) ?_
      refine hY _ _ Ext.rfl' ⟨ws ++ [_], by rw [List.map_append]; rfl, by simp [lw], fun w hw' => ?_⟩
      rcases List.mem_append.mp hw' with z | z
      · exact hw w z
      · rw [List.mem_singleton.mp z]; exact getD_in (by omega)
    · rintro ys H9 e9 ha ⟨ws, rfl, lw, hw⟩
      repeat walk_at "vs"
      intro gl H10 n10 q10 e10
      have x10 := e9.tr e10
      have pst : (ss.drop tn ++ ss.take tn).Perm ss := List.perm_append_comm.trans (by rw [List.take_append_drop])
      exact hq gl (.shelf ss) (.t _) (ws.map .s) H10 ((x6.tr (x78.tr e9)).free n10) ⟨_, _, acc, _, q10, ⟨l8, rfl, x10 _ _ q8⟩, ⟨l6, rfl, (x78.tr x10) _ _ q6⟩, e10 _ _ ha, all_s ws⟩ ⟨⟨by omega, by omega, ns⟩, ⟨_, rfl, pst⟩, ws_all fun x hx => ⟨x, rfl, hw x hx⟩, by rw [List.length_map, lw]; omega⟩ (x6.tr (x78.tr x10))
def sp_law_places : Sp := fun us H Q _ => ∃ h p cs, HeadP us H h p cs ∧ GameQ H Q
theorem at4w (n : Int) : ∃ m : Int, atI [V.int 12, V.int 1000, V.int 1000000, V.int 1000000000000000000] (n % 4) = some (.int m) ∧ 1 ≤ m ∧ m ≤ 1000000000000000000 := by
  have h0 : n % 4 = 0 ∨ n % 4 = 1 ∨ n % 4 = 2 ∨ n % 4 = 3 := by omega
  rcases h0 with e | e | e | e <;> rw [e]
  · exact ⟨12, rfl, by omega, by omega⟩
  · exact ⟨1000, rfl, by omega, by omega⟩
  · exact ⟨1000000, rfl, by omega, by omega⟩
  · exact ⟨1000000000000000000, rfl, by omega, by omega⟩
theorem at3r {m : Nat} (m1 : 1 ≤ m) (m3 : m ≤ 3) : ∃ r : Int, atI [V.int 62, V.int 62, V.int 14] ((m : Int) - 1) = some (.int r) ∧ 12 ≤ r := by
  have h0 : m = 1 ∨ m = 2 ∨ m = 3 := by omega
  rcases h0 with rfl | rfl | rfl
  · exact ⟨62, rfl, by omega⟩
  · exact ⟨62, rfl, by omega⟩
  · exact ⟨14, rfl, by omega⟩
theorem ok_law_places (T : Txt K mg a) : FnOk P w K mg base (CXU P w) 2 a.f_law_places a.d_law_places ["_law_head", "_law_cells"] (sp_law_places) := by
  refine T.F_law_places.okU sc_law_places (fun vs H Q E h => ?_) (fun cdv A outer s H vs Q E hr h => ?_)
  · obtain ⟨h, p, cs, ⟨rfl, h0, h1, hp, hl, hc⟩, hq⟩ := h
    rfl
  · obtain ⟨h, p, cs, ⟨rfl, h0, h1, hp, hl, hc⟩, hq⟩ := h
    refine ⟨_, (pss_cons (ps_set (i := 2) sc_law_places.nd rfl (by first | exact Or.inl rfl | exact Or.inr rfl) (pe_op oAddW pe_int (pe_op op_mod (pe_op op_fdivB (pv 0) pe_int) pe_int)))
      (pss_cons (ps_set (i := 3) sc_law_places.nd rfl (by first | exact Or.inl rfl | exact Or.inr rfl) (pe_ix oIx (pe_lst (pa_cons pe_int (pa_cons pe_int (pa_cons (pe_op op_pow pe_int pe_int) (pa_cons (pe_op op_pow pe_int pe_int) pa_nil))))) (pe_op op_mod (pe_op op_fdivB (pv 0) pe_int) pe_int) (fun _ _ => rfl)))
      (pss_cons (ps_set (i := 4) sc_law_places.nd rfl (by first | exact Or.inl rfl | exact Or.inr rfl) (pe_comp (["_law_j"] : List Str) (["_law_head", "_law_wide"] : List Str) [0, 3] rfl ⟨rfl, by decide +kernel, by decide +kernel, by rfl, ⟨⟨rfl, by first | exact Or.inl rfl | exact Or.inr rfl, by first | exact Or.inl rfl | exact Or.inr rfl⟩, ⟨rfl, by first | exact Or.inl rfl | exact Or.inr rfl, by first | exact Or.inl rfl | exact Or.inr rfl⟩, trivial⟩⟩ (pi_range1 rfl T.n_range (pa_cons (pe_op oAddW (pv 2) pe_int) pa_nil)) (fun _ _ _ _ => ⟨(pg_name (i := 0) (by show ((["_law_j"] : List Str) ++ (["_law_head", "_law_wide"] : List Str)).Nodup; decide +kernel) rfl (by first | exact Or.inl rfl | exact Or.inr rfl)), (show PTs _ [] [] from trivial), (pe_op op_sub (pe_op op_mod (pe_op oMulW (pe_call (ok_law_mixed T) (hr.mono (by decide)) (by rfl) T.m_law_mixed T.F_law_mixed.kp T.b_law_mixed .nil passU (pa_cons (pv 1) (pa_cons (pe_op oAddW pe_int (pv 0)) pa_nil))) (pe_op op_pow pe_int pe_int)) (pe_op oAddW (pe_op oMulW pe_int (pv 2)) pe_int)) (pv 2))⟩)))
      (pss_cons (ps_setComp (i := 5) (["_law_k"] : List Str) (["_law_places_here", "_law_cells", "_law_many"] : List Str) [4, 1, 2] sc_law_places.nd rfl (Or.inl rfl) rfl ⟨rfl, by decide +kernel, by decide +kernel, by rfl, ⟨⟨rfl, by first | exact Or.inl rfl | exact Or.inr rfl, by first | exact Or.inl rfl | exact Or.inr rfl⟩, ⟨rfl, by first | exact Or.inl rfl | exact Or.inr rfl, by first | exact Or.inl rfl | exact Or.inr rfl⟩, ⟨rfl, by first | exact Or.inl rfl | exact Or.inr rfl, by first | exact Or.inl rfl | exact Or.inr rfl⟩, trivial⟩⟩ (pi_range1 rfl T.n_range (pa_cons (pe_callB (cMin2 rfl) (by rfl) T.n_min PyProof.Rows.boot_min (pa_cons (pe_ix oIx (pe_lst (pa_cons pe_int (pa_cons pe_int (pa_cons pe_int pa_nil)))) (pe_op op_sub (pv 2) pe_int) (fun _ _ => rfl)) (pa_cons (pe_callB cLenW (by rfl) T.n_len PySem.boot_len (pa_cons (pv 1) pa_nil)) pa_nil))) pa_nil)) (fun _ _ _ _ => ⟨(pg_name (i := 0) (by show ((["_law_k"] : List Str) ++ (["_law_places_here", "_law_cells", "_law_many"] : List Str)).Nodup; decide +kernel) rfl (by first | exact Or.inl rfl | exact Or.inr rfl)), (show PTs _ [] [] from trivial), (pe_ix oIx (pv 1) (pe_op op_mod (pe_call (ok_law_mixed T) (hr.mono (by decide)) (by rfl) T.m_law_mixed T.F_law_mixed.kp T.b_law_mixed .nil passU (pa_cons (pe_ix oIx (pv 2) (pv 0) (fun _ _ => rfl)) (pa_cons (pv 0) pa_nil))) (pe_op oAddW (pv 3) pe_int)) (fun _ _ => rfl))⟩))
      (pss_one (ps_ret (pe_lst (pa_cons pe_int (pa_cons (pv 2) (pa_cons (pe_callTy cTuple (by rfl) T.n_tuple PyProof.Rows.boot_tuple (pa_cons (pe_callB cSortW (by rfl) T.n_sorted PyProof.Rows.boot_sorted (pa_cons (pe_slice oSl (pv 4) po_none (po_some (pv 2))) pa_nil)) pa_nil)) (pa_cons (pv 5) pa_nil))))))))))), ?_⟩
    obtain ⟨m, em, m1, m3⟩ : ∃ m : Nat, 1 + h / 6 % 3 = m ∧ 1 ≤ m ∧ m ≤ 3 := ⟨(1 + h / 6 % 3).toNat, by omega, by omega, by omega⟩
    obtain ⟨wd, hwd, w1, w2⟩ := at4w (h / 18)
    obtain ⟨rm, hrm, r12⟩ := at3r m1 m3
    repeat walk_at "vs"
    rw [em]
    intro l1 H1 n1 q1 e1
    repeat walk_at "vs"
    refine r_ixL q1 hwd ?_
    repeat walk_at "vs"
    refine ⟨_, rfl, by omega, by omega, fun acc hn _ _ _ _ => comp_someR (fun _ => True) (by omega) hn (fun i H3 Y hi e hY => ?_) fun xs H2 lx _ e2 ha => ?_⟩
    · repeat walk_at "vs"
      refine ⟨_, _, rfl, by omega, by omega, fun n n0 n1 => ?_⟩
      repeat walk_at "vs"
      exact hY _ _ trivial Ext.rfl'
    have lx' : xs.length = m + 4 := by omega
    have hp2 := (e1.tr e2) _ _ hp
    repeat walk_at "vs"
    intro l3 H3 n3 q3 e3
    repeat walk_at "vs"
    refine r_ixL q3 hrm ?_
    repeat walk_at "vs"
    refine r_lenWL (e3 _ _ hp2) ?_
    rw [List.length_map]
    repeat walk_at "vs"
    refine ⟨_, rfl, by omega, by omega, fun acc2 hn2 _ _ _ _ => comp_someR (fun _ => True) (by omega) hn2 (fun i H5 Y hi e hY => ?_) fun ys H4 ly _ e4 ha4 => ?_⟩
    · have i1 := atI_ints (ns := cs) (k := (i : Nat)) (by omega) (by omega)
      repeat walk_at "vs"
      refine r_ixL ((e3.tr e) _ _ hp2) i1 ?_
      repeat walk_at "vs"
      refine ⟨_, _, rfl, by omega, by omega, fun n n0 n1 => ?_⟩
      have a0 := Int.emod_nonneg n (show (m : Int) + 4 ≠ 0 by omega)
      have a1 := Int.emod_lt_of_pos n (show (0 : Int) < (m : Int) + 4 by omega)
      repeat walk_at "vs"
      refine r_ixL ((e3.tr e) _ _ ha) (atI_ints a0 (by omega)) ?_
      exact hY _ _ trivial Ext.rfl'
    have ha4' := (e3.tr e4) _ _ ha
    repeat walk_at "vs"
    refine r_slL ha4' fun l5 H5 n5 q5 e5 => ?_
    rw [cutL_to (by omega)] at q5
    repeat walk_at "vs"
    refine r_srtL q5 (by rw [List.length_take]; omega) fun l6 ns H6 n6 p6 s6 q6 e6 => ?_
    repeat walk_at "vs"
    refine r_tupleL q6 fun l7 H7 n7 q7 e7 => ?_
    repeat walk_at "vs"
    intro gl H8 n8 q8 e8
    have x8 := e5.tr (e6.tr (e7.tr e8))
    have x4 := e1.tr (e2.tr (e3.tr e4))
    have ln : ns.length = m := by rw [p6.length_eq, List.length_take]; omega
    exact hq gl (.line m) (.l ns) (ys.map .i) H8 ((x4.tr (e5.tr (e6.tr e7))).free n8) ⟨_, _, acc2, _, q8, rfl, ⟨l7, rfl, e8 _ _ q7⟩, x8 _ _ ha4, all_i ys⟩ ⟨⟨m1, m3⟩, ⟨ns, rfl, ln⟩, wi_all fun x _ => ⟨x, rfl⟩, by rw [List.length_map, ly]; omega⟩ (x4.tr x8)
def sp_law_hires : Sp := fun us H Q _ => ∃ h p cs, HeadP us H h p cs ∧ GameQ H Q
theorem ok_law_hires (T : Txt K mg a) : FnOk P w K mg base (CXU P w) 3 a.f_law_hires a.d_law_hires ["_law_head", "_law_cells"] (sp_law_hires) := by
  refine T.F_law_hires.okU sc_law_hires (fun vs H Q E h => ?_) (fun cdv A outer s H vs Q E hr h => ?_)
  · obtain ⟨h, p, cs, ⟨rfl, h0, h1, hp, hl, hc⟩, hq⟩ := h
    rfl
  · obtain ⟨h, p, cs, ⟨rfl, h0, h1, hp, hl, hc⟩, hq⟩ := h
    refine ⟨_, (pss_cons (ps_set (i := 2) sc_law_hires.nd rfl (by first | exact Or.inl rfl | exact Or.inr rfl) (pe_op oAddW pe_int (pe_op op_mod (pe_call (ok_law_sum T) (hr.mono (by decide)) (by rfl) T.m_law_sum T.F_law_sum.kp T.b_law_sum .nil passU (pa_cons (pv 0) (pa_cons pe_int pa_nil))) (pe_op op_pow pe_int pe_int))))
      (pss_cons (ps_set (i := 3) sc_law_hires.nd rfl (by first | exact Or.inl rfl | exact Or.inr rfl) (pe_callTy cInt1 (by rfl) T.n_int PyProof.Rows.boot_int (pa_cons (pe_cmpR (oEq hr) (pe_op op_mod (pe_op op_fdivB (pv 0) pe_int) pe_int) pe_int (nomark _)) pa_nil)))
      (pss_one (ps_ret (pe_lst (pa_cons pe_int (pa_cons (pv 2) (pa_cons (pv 3) (pa_cons (pe_comp (["_law_k"] : List Str) (["_law_cells", "_law_whole_here"] : List Str) [1, 2] rfl ⟨rfl, by decide +kernel, by decide +kernel, by rfl, ⟨⟨rfl, by first | exact Or.inl rfl | exact Or.inr rfl, by first | exact Or.inl rfl | exact Or.inr rfl⟩, ⟨rfl, by first | exact Or.inl rfl | exact Or.inr rfl, by first | exact Or.inl rfl | exact Or.inr rfl⟩, trivial⟩⟩ (pi_range1 rfl T.n_range (pa_cons (pe_callB cLenW (by rfl) T.n_len PySem.boot_len (pa_cons (pv 1) pa_nil)) pa_nil)) (fun _ _ _ _ => ⟨(pg_name (i := 0) (by show ((["_law_k"] : List Str) ++ (["_law_cells", "_law_whole_here"] : List Str)).Nodup; decide +kernel) rfl (by first | exact Or.inl rfl | exact Or.inr rfl)), (show PTs _ [] [] from trivial), (pe_op op_mod (pe_call (ok_law_mixed T) (hr.mono (by decide)) (by rfl) T.m_law_mixed T.F_law_mixed.kp T.b_law_mixed .nil passU (pa_cons (pe_ix oIx (pv 1) (pv 0) (fun _ _ => rfl)) (pa_cons (pv 0) pa_nil))) (pe_op oAddW (pe_op op_fdivB (pv 2) pe_int) pe_int))⟩)) pa_nil))))))))), ?_⟩
    repeat walk_at "vs"
    refine ⟨h, 1, rfl, by decide, by decide, ibh h0 h1, fun s s0 s1 => ?_⟩
    repeat walk_at "vs"
    refine r_lenWL hp ?_
    rw [List.length_map]
    repeat walk_at "vs"
    refine ⟨_, rfl, by omega, by omega, fun acc hn _ _ _ _ => comp_someR (fun _ => True) (by omega) hn (fun i H3 Y hi e hY => ?_) fun xs H2 lx _ e2 ha => ?_⟩
    · have i1 := atI_ints (ns := cs) (k := (i : Nat)) (by omega) (by omega)
      repeat walk_at "vs"
      refine r_ixL (e _ _ hp) i1 ?_
      repeat walk_at "vs"
      refine ⟨_, _, rfl, by omega, by omega, fun m m0 m1 => ?_⟩
      repeat walk_at "vs"
      exact hY _ _ trivial Ext.rfl'
    · repeat walk_at "vs"
      intro gl H4 n4 q4 e4
      exact hq gl (.hire _) (.i _) (xs.map .i) H4 (e2.free n4) ⟨_, _, acc, _, q4, rfl, rfl, e4 _ _ ha, all_i xs⟩ ⟨trivial, ok01 _, wi_all fun x _ => ⟨x, rfl⟩, by rw [List.length_map, lx]; omega⟩ (e2.tr e4)
def sp_law_game (K : PySem.W.Frag) : Sp := fun us H Q _ => ∃ (p : Addr) (ns : List Int), us = [.ref p, .int 12] ∧ SqL K H p (ns.map V.int) ∧ ns.length ≤ 63 ∧ (∀ z ∈ ns, ib z ≤ 1048576) ∧ GameQ H Q
theorem ok_law_game (T : Txt K mg a) : FnOk P w K mg base (CXU P w) 4 a.f_law_game a.d_law_game ["_law_script", "_law_most"] (sp_law_game K) := by
  refine T.F_law_game.okU sc_law_game (fun vs H Q E h => ?_) (fun cdv A outer s H vs Q E hr h => ?_)
  · obtain ⟨p, ns, rfl, hS, hl, hb, hq⟩ := h
    rfl
  · obtain ⟨p, ns, rfl, hS, hl, hb, hq⟩ := h
    refine ⟨_, (pss_cons (ps_set (i := 2) sc_law_game.nd rfl (by first | exact Or.inl rfl | exact Or.inr rfl) (pe_call (ok_law_mixed T) (hr.mono (by decide)) (by rfl) T.m_law_mixed T.F_law_mixed.kp T.b_law_mixed .nil passU (pa_cons (pe_call (ok_law_cell T) (hr.mono (by decide)) (by rfl) T.m_law_cell T.F_law_cell.kp T.b_law_cell .nil passU (pa_cons (pv 0) (pa_cons pe_int pa_nil))) (pa_cons pe_int pa_nil))))
      (pss_cons (ps_set (i := 3) sc_law_game.nd rfl (by first | exact Or.inl rfl | exact Or.inr rfl) (pe_op op_mod (pe_op op_fdivB (pv 2) pe_int) (pe_op oAddW (pv 1) pe_int)))
      (pss_cons (ps_if (pt_cmpR (oEq hr) (pe_op op_mod (pe_op op_fdivB (pv 2) pe_int) pe_int) pe_int (nomark _)) (pss_one (ps_set (i := 3) sc_law_game.nd rfl (by first | exact Or.inl rfl | exact Or.inr rfl) (pe_callB (cMin2 rfl) (by rfl) T.n_min PyProof.Rows.boot_min (pa_cons (pe_callB (cMax2 rfl) (by rfl) T.n_max PyProof.Rows.boot_max (pa_cons (pe_op op_sub (pe_callB cLenW (by rfl) T.n_len PySem.boot_len (pa_cons (pv 0) pa_nil)) pe_int) (pa_cons pe_int pa_nil))) (pa_cons (pv 1) pa_nil))))) pss_nil)
      (pss_cons (ps_setComp (i := 4) (["_law_k"] : List Str) (["_law_script"] : List Str) [0] sc_law_game.nd rfl (Or.inl rfl) rfl ⟨rfl, by decide +kernel, by decide +kernel, by rfl, ⟨⟨rfl, by first | exact Or.inl rfl | exact Or.inr rfl, by first | exact Or.inl rfl | exact Or.inr rfl⟩, trivial⟩⟩ (pi_range1 rfl T.n_range (pa_cons (pv 3) pa_nil)) (fun _ _ _ _ => ⟨(pg_name (i := 0) (by show ((["_law_k"] : List Str) ++ (["_law_script"] : List Str)).Nodup; decide +kernel) rfl (by first | exact Or.inl rfl | exact Or.inr rfl)), (show PTs _ [] [] from trivial), (pe_call (ok_law_cell T) (hr.mono (by decide)) (by rfl) T.m_law_cell T.F_law_cell.kp T.b_law_cell .nil passU (pa_cons (pv 1) (pa_cons (pe_op oAddW pe_int (pv 0)) pa_nil)))⟩))
      (pss_cons (ps_if (pt_cmpR (oEq hr) (pe_op op_mod (pv 2) pe_int) pe_int (nomark _)) (pss_one (ps_ret (pe_call (ok_law_hires T) (hr.mono (by decide)) (by rfl) T.m_law_hires T.F_law_hires.kp T.b_law_hires .nil passU (pa_cons (pv 2) (pa_cons (pv 4) pa_nil))))) pss_nil)
      (pss_cons (ps_if (pt_cmpR (oEq hr) (pe_op op_mod (pv 2) pe_int) pe_int (nomark _)) (pss_one (ps_ret (pe_call (ok_law_places T) (hr.mono (by decide)) (by rfl) T.m_law_places T.F_law_places.kp T.b_law_places .nil passU (pa_cons (pv 2) (pa_cons (pv 4) pa_nil))))) pss_nil)
      (pss_cons (ps_if (pt_cmpR (oEq hr) (pe_op op_mod (pv 2) pe_int) pe_int (nomark _)) (pss_one (ps_ret (pe_call (ok_law_things T) (hr.mono (by decide)) (by rfl) T.m_law_things T.F_law_things.kp T.b_law_things .nil passU (pa_cons (pv 2) (pa_cons (pv 4) pa_nil))))) pss_nil)
      (pss_cons (ps_if (pt_cmpR (oEq hr) (pe_op op_mod (pv 2) pe_int) pe_int (nomark _)) (pss_one (ps_ret (pe_call (ok_law_charged T) (hr.mono (by decide)) (by rfl) T.m_law_charged T.F_law_charged.kp T.b_law_charged .nil passU (pa_cons (pv 2) (pa_cons (pv 4) pa_nil))))) pss_nil)
      (pss_cons (ps_if (pt_cmpR (oEq hr) (pe_op op_mod (pv 2) pe_int) pe_int (nomark _)) (pss_one (ps_ret (pe_call (ok_law_pages T) (hr.mono (by decide)) (by rfl) T.m_law_pages T.F_law_pages.kp T.b_law_pages .nil passU (pa_cons (pv 2) (pa_cons (pv 4) pa_nil))))) pss_nil)
      (pss_one (ps_ret (pe_call (ok_law_sizes T) (hr.mono (by decide)) (by rfl) T.m_law_sizes T.F_law_sizes.kp T.b_law_sizes .nil passU (pa_cons (pv 2) (pa_cons (pv 4) pa_nil)))))))))))))), ?_⟩
    repeat walk_at "vs"
    refine ⟨p, ns, 0, rfl, hS, by decide, hb, fun c hc => ?_⟩
    repeat walk_at "vs"
    refine ⟨_, _, rfl, by decide, by decide, fun h h0 h1 => ?_⟩
    repeat walk_at "vs"
    refine iteD (fun c2 => ?_) (fun c2 => ?_)
    · repeat walk_at "vs"
      refine r_lenWQ hS ?_
      rw [List.length_map]
      repeat walk_at "vs"
      refine ⟨_, rfl, by omega, by omega, fun acc hn _ _ _ _ => comp_someR (fun x => ib x ≤ 1048576) (by omega) hn (fun i H3 Y hi e hY => ?_) fun xs H1 lx hx e1 ha => ?_⟩
      · repeat walk_at "vs"
        exact ⟨p, ns, _, rfl, e.seqL hS, by omega, hb, fun c hc => hY _ _ hc Ext.rfl'⟩
      have gq : GameQ H1 Q := fun gl g st ws H' n v o e => hq gl g st ws H' (e1.free n) v o (e1.tr e)
      repeat walk_at "vs"
      refine iteD (fun c0 => ?_) (fun c0 => ?_)
      · repeat walk_at "vs"
        exact ⟨h, acc, xs, ⟨rfl, h0, h1, ha, by omega, hx⟩, gq⟩
      repeat walk_at "vs"
      refine iteD (fun c1 => ?_) (fun c1 => ?_)
      · repeat walk_at "vs"
        exact ⟨h, acc, xs, ⟨rfl, h0, h1, ha, by omega, hx⟩, gq⟩
      repeat walk_at "vs"
      refine iteD (fun c2 => ?_) (fun c2 => ?_)
      · repeat walk_at "vs"
        exact ⟨h, acc, xs, ⟨rfl, h0, h1, ha, by omega, hx⟩, gq⟩
      repeat walk_at "vs"
      refine iteD (fun c3 => ?_) (fun c3 => ?_)
      · repeat walk_at "vs"
        exact ⟨h, acc, xs, ⟨rfl, h0, h1, ha, by omega, hx⟩, gq⟩
      repeat walk_at "vs"
      refine iteD (fun c4 => ?_) (fun c4 => ?_)
      · repeat walk_at "vs"
        exact ⟨h, acc, xs, ⟨rfl, h0, h1, ha, by omega, hx⟩, gq⟩
      repeat walk_at "vs"
      exact ⟨h, acc, xs, ⟨rfl, h0, h1, ha, by omega, hx⟩, gq⟩
    · repeat walk_at "vs"
      refine ⟨_, rfl, by omega, by omega, fun acc hn _ _ _ _ => comp_someR (fun x => ib x ≤ 1048576) (by omega) hn (fun i H3 Y hi e hY => ?_) fun xs H1 lx hx e1 ha => ?_⟩
      · repeat walk_at "vs"
        exact ⟨p, ns, _, rfl, e.seqL hS, by omega, hb, fun c hc => hY _ _ hc Ext.rfl'⟩
      have gq : GameQ H1 Q := fun gl g st ws H' n v o e => hq gl g st ws H' (e1.free n) v o (e1.tr e)
      repeat walk_at "vs"
      refine iteD (fun c0 => ?_) (fun c0 => ?_)
      · repeat walk_at "vs"
        exact ⟨h, acc, xs, ⟨rfl, h0, h1, ha, by omega, hx⟩, gq⟩
      repeat walk_at "vs"
      refine iteD (fun c1 => ?_) (fun c1 => ?_)
      · repeat walk_at "vs"
        exact ⟨h, acc, xs, ⟨rfl, h0, h1, ha, by omega, hx⟩, gq⟩
      repeat walk_at "vs"
      refine iteD (fun c2 => ?_) (fun c2 => ?_)
      · repeat walk_at "vs"
        exact ⟨h, acc, xs, ⟨rfl, h0, h1, ha, by omega, hx⟩, gq⟩
      repeat walk_at "vs"
      refine iteD (fun c3 => ?_) (fun c3 => ?_)
      · repeat walk_at "vs"
        exact ⟨h, acc, xs, ⟨rfl, h0, h1, ha, by omega, hx⟩, gq⟩
      repeat walk_at "vs"
      refine iteD (fun c4 => ?_) (fun c4 => ?_)
      · repeat walk_at "vs"
        exact ⟨h, acc, xs, ⟨rfl, h0, h1, ha, by omega, hx⟩, gq⟩
      repeat walk_at "vs"
      exact ⟨h, acc, xs, ⟨rfl, h0, h1, ha, by omega, hx⟩, gq⟩
def wD : WsG → D
  | .i z => .int z
  | .s x => .str x
  | .l ns => .tup (ns.map D.int)
def sD : StG → D
  | .i z => .int z
  | .l ns => .tup (ns.map D.int)
  | .t ss => .tup (ss.map D.str)
theorem wD_rep {H : Hp} : ∀ {ws : List WsG} {vs : List V}, AllR (WsG.at_ H) ws vs → RepL H (ws.map wD) vs
  | [], [], _ => RepL.nil
  | w :: ws, v :: vs, ⟨h1, h⟩ => by
    refine RepL.cons ?_ (wD_rep h)
    cases w with
    | i z => exact h1
    | s x => exact h1
    | l ns => obtain ⟨p, rfl, hp⟩ := h1; exact Rep.tupInts hp
  | [], _ :: _, h => h.elim
  | _ :: _, [], h => h.elim
theorem sD_rep {H : Hp} : ∀ {ws : List StG} {vs : List V}, AllR (StG.at_ H) ws vs → RepL H (ws.map sD) vs
  | [], [], _ => RepL.nil
  | w :: ws, v :: vs, ⟨h1, h⟩ => by
    refine RepL.cons ?_ (sD_rep h)
    cases w with
    | i z => exact h1
    | l ns => obtain ⟨p, rfl, hp⟩ := h1; exact Rep.tupInts hp
    | t ss => obtain ⟨p, rfl, hp⟩ := h1; exact strs_trep hp
  | [], _ :: _, h => h.elim
  | _ :: _, [], h => h.elim
theorem eqOkTS {ss : List Str} (h : ∀ s ∈ ss, nmS s = true) : (D.tup (ss.map D.str)).eqOk = true := eqOkS h
theorem wD_ok {g : Gm} (hwf : g.wf) : ∀ {ws : List WsG}, (∀ w ∈ ws, g.okW w) → D.eqOkL (ws.map wD) = true
  | [], _ => rfl
  | w :: ws, h => by
    show ((wD w).eqOk && D.eqOkL (ws.map wD)) = true
    rw [wD_ok hwf fun x hx => h x (List.mem_cons_of_mem _ hx), Bool.and_true]
    have hw := h w List.mem_cons_self
    cases g with
    | hire W => obtain ⟨z, rfl⟩ := hw; rfl
    | line m => obtain ⟨z, rfl⟩ := hw; rfl
    | shelf ts => obtain ⟨x, rfl, hx⟩ := hw; exact nmS_ok (hwf.2.2 x hx)
    | wys m t => obtain ⟨ns, rfl, _⟩ := hw; exact eqOk_ints ns
    | store m => obtain ⟨x, rfl, hx⟩ := hw; exact nmS_ok hx
    | bags R => obtain ⟨z, rfl, _⟩ := hw; rfl
theorem sD_ok {g : Gm} {n : Nat} (hwf : g.wf) : ∀ {ws : List StG}, (∀ w ∈ ws, g.ok n w) → D.eqOkL (ws.map sD) = true
  | [], _ => rfl
  | w :: ws, h => by
    show ((sD w).eqOk && D.eqOkL (ws.map sD)) = true
    rw [sD_ok hwf fun x hx => h x (List.mem_cons_of_mem _ hx), Bool.and_true]
    have hw := h w List.mem_cons_self
    cases g with
    | hire W => rcases hw with rfl | rfl <;> rfl
    | line m => obtain ⟨ns, rfl, _⟩ := hw; exact eqOk_ints ns
    | shelf ts => obtain ⟨ss, rfl, pm⟩ := hw; exact eqOkTS fun x hx => hwf.2.2 x (pm.mem_iff.mp hx)
    | wys m t => obtain ⟨z, rfl, _⟩ := hw; rfl
    | store m => obtain ⟨ss, rfl, _, hx⟩ := hw; exact eqOkTS hx
    | bags R => obtain ⟨ns, rfl, _⟩ := hw; exact eqOk_ints ns
theorem wD_dep : ∀ (ws : List WsG), D.depthL (ws.map wD) ≤ 1
  | [] => by decide
  | w :: ws => by
    have := wD_dep ws
    have h1 : (wD w).depth ≤ 1 := by
      cases w with
      | i z => exact Nat.zero_le _
      | s z => exact Nat.zero_le _
      | l ns => show D.depthL (ns.map D.int) + 1 ≤ 1; rw [depthL_ints]; omega
    show max (wD w).depth (D.depthL (ws.map wD)) ≤ 1
    omega
theorem sD_dep : ∀ (ws : List StG), D.depthL (ws.map sD) ≤ 1
  | [] => by decide
  | w :: ws => by
    have := sD_dep ws
    have h1 : (sD w).depth ≤ 1 := by
      cases w with
      | i z => exact Nat.zero_le _
      | l ns => show D.depthL (ns.map D.int) + 1 ≤ 1; rw [depthL_ints]; omega
      | t ss => show D.depthL (ss.map D.str) + 1 ≤ 1; rw [depS]; omega
    show max (sD w).depth (D.depthL (ws.map sD)) ≤ 1
    omega
theorem eqD_me {d : D} (h : d.eqOk = true) : eqD d d = true := SeqAt.eqv_refl _ (D.canLay _ h)
def sp_law (K : PySem.W.Frag) : Sp := fun vs H Q _ => ∃ (p : Addr) (ns : List Int), vs = [.ref p] ∧ SqL K H p (ns.map V.int) ∧ ns.length ≤ 63 ∧ (∀ z ∈ ns, ib z ≤ 1048576) ∧ ∀ H', Q (.bl true) H'
theorem ok_law (T : Txt K mg a) : FnOk P w K mg base (CXU P w) 13 a.f_law a.d_law ["_law_script"] (sp_law K) := by
  refine T.F_law.okU sc_law (fun vs H Q E h => ?_) (fun cdv A outer s H vs Q E hr h => ?_)
  · obtain ⟨p, cs, rfl, hS, hl, hb, hq⟩ := h
    rfl
  · obtain ⟨p, cs, rfl, hS, hl, hb, hq⟩ := h
    refine ⟨_, (pss_cons (ps_set (i := 1) sc_law.nd rfl (by first | exact Or.inl rfl | exact Or.inr rfl) (pe_call (ok_law_game T) (hr.mono (by decide)) (by rfl) T.m_law_game T.F_law_game.kp T.b_law_game .nil passU (pa_cons (pv 0) (pa_cons pe_int pa_nil))))
      (pss_cons (ps_set (i := 2) sc_law.nd rfl (by first | exact Or.inl rfl | exact Or.inr rfl) (pe_call (ok_law_way T) (hr.mono (by decide)) (by rfl) T.m_law_way T.F_law_way.kp T.b_law_way .nil passU (pa_cons (pv 0) (pa_cons (pv 1) (pa_cons (pe_and (pe_cmpR (oEq hr) (pe_op op_mod (pe_call (ok_law_mixed T) (hr.mono (by decide)) (by rfl) T.m_law_mixed T.F_law_mixed.kp T.b_law_mixed .nil passU (pa_cons (pe_call (ok_law_cell T) (hr.mono (by decide)) (by rfl) T.m_law_cell T.F_law_cell.kp T.b_law_cell .nil passU (pa_cons (pv 0) (pa_cons pe_int pa_nil))) (pa_cons pe_int pa_nil))) pe_int) pe_int (nomark _)) (pe_one (pe_cmpR oNotIn (pe_ix oIx (pv 1) pe_int (fun _ _ => rfl)) (pe_lst (pa_cons pe_int (pa_cons pe_int pa_nil))) (by with_unfolding_all rfl)))) pa_nil)))))
      (pss_cons (ps_set (i := 3) sc_law.nd rfl (by first | exact Or.inl rfl | exact Or.inr rfl) (pe_lst (pa_cons (pe_callTy cList (by rfl) T.n_list PyProof.Rows.boot_list (pa_cons (pe_ix oIx (pv 1) pe_int (fun _ _ => rfl)) pa_nil)) (pa_cons (pe_callTy cList (by rfl) T.n_list PyProof.Rows.boot_list (pa_cons (pv 2) pa_nil)) pa_nil))))
      (pss_cons (ps_set (i := 4) sc_law.nd rfl (by first | exact Or.inl rfl | exact Or.inr rfl) (pe_call (ok_way_price T) (hr.mono (by decide)) (by rfl) T.m_way_price T.F_way_price.kp T.b_way_price .nil passU (pa_cons (pe_call (ok_law_world T) (hr.mono (by decide)) (by rfl) T.m_law_world T.F_law_world.kp T.b_law_world .nil passU (pa_cons (pv 1) pa_nil)) (pa_cons (pe_ix oIx (pv 1) pe_int (fun _ _ => rfl)) (pa_cons (pe_ix oIx (pv 3) pe_int (fun _ _ => rfl)) (pa_cons (pe_ix oIx (pv 3) pe_int (fun _ _ => rfl)) pa_nil))))))
      (pss_one (ps_ret (pe_and (pe_call (ok_law_same T) (hr.mono (by decide)) (by rfl) T.m_law_same T.F_law_same.kp T.b_law_same .nil passU (pa_cons (pv 4) (pa_cons (pe_call (ok_law_due T) (hr.mono (by decide)) (by rfl) T.m_law_due T.F_law_due.kp T.b_law_due .nil passU (pa_cons (pv 1) (pa_cons (pv 2) pa_nil))) pa_nil))) (pe_and (pe_cmpR (oEq hr) (pe_ix oIx (pv 3) pe_int (fun _ _ => rfl)) (pe_ix oIx (pv 1) pe_int (fun _ _ => rfl)) (nomark _)) (pe_one (pe_cmpR (oEq hr) (pe_ix oIx (pv 3) pe_int (fun _ _ => rfl)) (pv 2) (nomark _))))))))))), ?_⟩
    repeat walk_at "vs"
    refine ⟨p, cs, rfl, hS, hl, hb, fun gl g st ws H1 n1 hG hO e1 => ?_⟩
    repeat walk_at "vs"
    refine ⟨p, cs, 0, rfl, e1.seqL hS, by decide, hb, fun c hc => ?_⟩
    repeat walk_at "vs"
    refine ⟨_, _, rfl, by decide, by decide, fun m m0 m1 => ?_⟩
    repeat walk_at "vs"
    refine iteD (fun c1 => ?_) (fun c1 => ?_)
    · obtain ⟨gv0, sv0, wl0, wvs0, hg0, _⟩ := id hG
      repeat walk_at "vs"
      refine r_ixL hg0 rfl ?_
      repeat walk_at "vs"
      intro l2 H2 n2 q2 e2
      repeat walk_at "vs"
      refine r_notinL q2 rfl rfl ?_
      repeat walk_at "vs"
      have xw := e1.tr e2
      have hGw := hG.mono e2
      refine ⟨p, gl, cs, g, st, ws, _, rfl, xw.seqL hS, hb, hGw, hO, fun yl yvs as H3 q3 has la oka e3 => ?_⟩
      have hG3 := hGw.mono e3
      obtain ⟨gv, sv, wl, wvs, hg, hpv, hsv, hwl, hws⟩ := id hG3
      repeat walk_at "vs"
      refine r_ixL hg rfl ?_
      repeat walk_at "vs"
      refine r_listL hwl fun l4 H4 n4 q4 e4 => ?_
      repeat walk_at "vs"
      refine r_listL (e4 _ _ q3) fun l5 H5 n5 q5 e5 => ?_
      repeat walk_at "vs"
      intro l6 H6 n6 q6 e6
      have x36 := e4.tr (e5.tr e6)
      repeat walk_at "vs"
      refine ⟨gl, g, st, ws, rfl, hG3.mono x36, fun r H7 hr7 e7 => ?_⟩
      have x37 := x36.tr e7
      have q67 := e7 _ _ q6
      obtain ⟨v, hv⟩ := DueG.some (g := g) (ws.zip as) st 0 (Gm.ok_mono hO.2.1 (by omega)) fun pq hpq => ⟨hO.2.2.1 _ (List.of_mem_zip hpq).1, oka _ (List.of_mem_zip hpq).2⟩
      repeat walk_at "vs"
      refine r_ixL (x37 _ _ hg) rfl ?_
      repeat walk_at "vs"
      refine r_ixL q67 rfl ?_
      repeat walk_at "vs"
      refine r_ixL q67 rfl ?_
      repeat walk_at "vs"
      refine ⟨r, l4, l5, sv, g, st, ws, as, wvs, yvs, v, rfl, hr7, hO.1, StG.mono x37 hsv, Gm.ok_mono hO.2.1 (by omega), (e5.tr (e6.tr e7)) _ _ q4, (e6.tr e7) _ _ q5, hws.imp fun k => WsG.mono x37 k, has.imp fun k => StG.mono x37 k, la.symm, hO.2.2.2, hO.2.2.1, oka, hv, fun H8 e8 => ?_⟩
      have x38 := x37.tr e8
      repeat walk_at "vs"
      refine ⟨gl, yl, g, st, ws, as, yvs, v, rfl, hG3.mono x38, hO, x38 _ _ q3, has.imp fun k => StG.mono x38 k, la, oka, hv, fun H9 e9 => ?_⟩
      have x39 := x38.tr e9
      obtain ⟨dv, d1, d2, d3⟩ : ∃ d : D, Rep H9 d v ∧ d.fine = true ∧ Nat.ble d.depth 5 = true := by
        rcases hv.val with rfl | ⟨i, rfl⟩
        · exact ⟨.non, .nonI, rfl, rfl⟩
        · exact ⟨.int i, .intI, rfl, rfl⟩
      repeat walk_at "vs"
      refine same_yes d1 d1 d2 d3 fun H10 e10 => ?_
      have x10 := x39.tr e10
      have x70 := e8.tr (e9.tr e10)
      repeat walk_at "vs"
      refine r_ixL (x70 _ _ q67) rfl ?_
      repeat walk_at "vs"
      refine r_ixL (x10 _ _ hg) rfl ?_
      repeat walk_at "vs"
      have ow := wD_ok hO.1 hO.2.2.1
      have dw := wD_dep ws
      refine r_eqD (Rep.lstI ((e5.tr (e6.tr (e7.tr x70))) _ _ q4) (wD_rep (hws.imp fun k => WsG.mono x10 k))) (Rep.lstI (x10 _ _ hwl) (wD_rep (hws.imp fun k => WsG.mono x10 k))) ow ow (by show D.depthL (ws.map wD) + 1 ≤ 20; omega) ?_
      rw [eqD_me (d := .lst (ws.map wD)) ow]
      repeat walk_at "vs"
      refine r_ixL (x70 _ _ q67) rfl ?_
      repeat walk_at "vs"
      have os := sD_ok hO.1 oka
      have ds := sD_dep as
      refine r_eqD (Rep.lstI ((e6.tr (e7.tr x70)) _ _ q5) (sD_rep (has.imp fun k => StG.mono x10 k))) (Rep.lstI (x10 _ _ q3) (sD_rep (has.imp fun k => StG.mono x10 k))) os os (by show D.depthL (as.map sD) + 1 ≤ 20; omega) ?_
      rw [eqD_me (d := .lst (as.map sD)) os]
      exact hq H10
    · repeat walk_at "vs"
      have xw := e1
      have hGw := hG
      refine ⟨p, gl, cs, g, st, ws, _, rfl, xw.seqL hS, hb, hGw, hO, fun yl yvs as H3 q3 has la oka e3 => ?_⟩
      have hG3 := hGw.mono e3
      obtain ⟨gv, sv, wl, wvs, hg, hpv, hsv, hwl, hws⟩ := id hG3
      repeat walk_at "vs"
      refine r_ixL hg rfl ?_
      repeat walk_at "vs"
      refine r_listL hwl fun l4 H4 n4 q4 e4 => ?_
      repeat walk_at "vs"
      refine r_listL (e4 _ _ q3) fun l5 H5 n5 q5 e5 => ?_
      repeat walk_at "vs"
      intro l6 H6 n6 q6 e6
      have x36 := e4.tr (e5.tr e6)
      repeat walk_at "vs"
      refine ⟨gl, g, st, ws, rfl, hG3.mono x36, fun r H7 hr7 e7 => ?_⟩
      have x37 := x36.tr e7
      have q67 := e7 _ _ q6
      obtain ⟨v, hv⟩ := DueG.some (g := g) (ws.zip as) st 0 (Gm.ok_mono hO.2.1 (by omega)) fun pq hpq => ⟨hO.2.2.1 _ (List.of_mem_zip hpq).1, oka _ (List.of_mem_zip hpq).2⟩
      repeat walk_at "vs"
      refine r_ixL (x37 _ _ hg) rfl ?_
      repeat walk_at "vs"
      refine r_ixL q67 rfl ?_
      repeat walk_at "vs"
      refine r_ixL q67 rfl ?_
      repeat walk_at "vs"
      refine ⟨r, l4, l5, sv, g, st, ws, as, wvs, yvs, v, rfl, hr7, hO.1, StG.mono x37 hsv, Gm.ok_mono hO.2.1 (by omega), (e5.tr (e6.tr e7)) _ _ q4, (e6.tr e7) _ _ q5, hws.imp fun k => WsG.mono x37 k, has.imp fun k => StG.mono x37 k, la.symm, hO.2.2.2, hO.2.2.1, oka, hv, fun H8 e8 => ?_⟩
      have x38 := x37.tr e8
      repeat walk_at "vs"
      refine ⟨gl, yl, g, st, ws, as, yvs, v, rfl, hG3.mono x38, hO, x38 _ _ q3, has.imp fun k => StG.mono x38 k, la, oka, hv, fun H9 e9 => ?_⟩
      have x39 := x38.tr e9
      obtain ⟨dv, d1, d2, d3⟩ : ∃ d : D, Rep H9 d v ∧ d.fine = true ∧ Nat.ble d.depth 5 = true := by
        rcases hv.val with rfl | ⟨i, rfl⟩
        · exact ⟨.non, .nonI, rfl, rfl⟩
        · exact ⟨.int i, .intI, rfl, rfl⟩
      repeat walk_at "vs"
      refine same_yes d1 d1 d2 d3 fun H10 e10 => ?_
      have x10 := x39.tr e10
      have x70 := e8.tr (e9.tr e10)
      repeat walk_at "vs"
      refine r_ixL (x70 _ _ q67) rfl ?_
      repeat walk_at "vs"
      refine r_ixL (x10 _ _ hg) rfl ?_
      repeat walk_at "vs"
      have ow := wD_ok hO.1 hO.2.2.1
      have dw := wD_dep ws
      refine r_eqD (Rep.lstI ((e5.tr (e6.tr (e7.tr x70))) _ _ q4) (wD_rep (hws.imp fun k => WsG.mono x10 k))) (Rep.lstI (x10 _ _ hwl) (wD_rep (hws.imp fun k => WsG.mono x10 k))) ow ow (by show D.depthL (ws.map wD) + 1 ≤ 20; omega) ?_
      rw [eqD_me (d := .lst (ws.map wD)) ow]
      repeat walk_at "vs"
      refine r_ixL (x70 _ _ q67) rfl ?_
      repeat walk_at "vs"
      have os := sD_ok hO.1 oka
      have ds := sD_dep as
      refine r_eqD (Rep.lstI ((e6.tr (e7.tr x70)) _ _ q5) (sD_rep (has.imp fun k => StG.mono x10 k))) (Rep.lstI (x10 _ _ q3) (sD_rep (has.imp fun k => StG.mono x10 k))) os os (by show D.depthL (as.map sD) + 1 ≤ 20; omega) ?_
      rw [eqD_me (d := .lst (as.map sD)) os]
      exact hq H10
end
theorem all_mk {l : PySem.W.OpenLaw} {w : World} {K : PySem.W.Frag} {h : Heap} {mg : Str → Option Value} {fa : Addr} (X : K.In h) (G : h.Ns mainGlobals mg) (hfa : mg "law" = some (.ref fa))
    {f_law : Addr} {od_law an_law : Option Addr} {sl_law : Array (Option Value)} {oc_law kV_law dc_law pm_law cd_law ct_law : Value}
    {f_law_same : Addr} {od_law_same an_law_same : Option Addr} {sl_law_same : Array (Option Value)} {oc_law_same kV_law_same dc_law_same pm_law_same cd_law_same ct_law_same : Value}
    {f_law_whole : Addr} {od_law_whole an_law_whole : Option Addr} {sl_law_whole : Array (Option Value)} {oc_law_whole kV_law_whole dc_law_whole pm_law_whole cd_law_whole ct_law_whole : Value}
    {f_law_all_same : Addr} {od_law_all_same an_law_all_same : Option Addr} {sl_law_all_same : Array (Option Value)} {oc_law_all_same kV_law_all_same dc_law_all_same pm_law_all_same cd_law_all_same ct_law_all_same : Value}
    {f_law_due : Addr} {od_law_due an_law_due : Option Addr} {sl_law_due : Array (Option Value)} {oc_law_due kV_law_due dc_law_due pm_law_due cd_law_due ct_law_due : Value}
    {f_law_price : Addr} {od_law_price an_law_price : Option Addr} {sl_law_price : Array (Option Value)} {oc_law_price kV_law_price dc_law_price pm_law_price cd_law_price ct_law_price : Value}
    {f_law_put : Addr} {od_law_put an_law_put : Option Addr} {sl_law_put : Array (Option Value)} {oc_law_put kV_law_put dc_law_put pm_law_put cd_law_put ct_law_put : Value}
    {f_law_turned : Addr} {od_law_turned an_law_turned : Option Addr} {sl_law_turned : Array (Option Value)} {oc_law_turned kV_law_turned dc_law_turned pm_law_turned cd_law_turned ct_law_turned : Value}
    {f_way_price : Addr} {od_way_price an_way_price : Option Addr} {sl_way_price : Array (Option Value)} {oc_way_price kV_way_price dc_way_price pm_way_price cd_way_price ct_way_price : Value}
    {f_Ways_price : Addr} {od_Ways_price an_Ways_price : Option Addr} {sl_Ways_price : Array (Option Value)} {oc_Ways_price kV_Ways_price dc_Ways_price pm_Ways_price cd_Ways_price ct_Ways_price : Value}
    {f_Store_price : Addr} {od_Store_price an_Store_price : Option Addr} {sl_Store_price : Array (Option Value)} {oc_Store_price kV_Store_price dc_Store_price pm_Store_price cd_Store_price ct_Store_price : Value}
    {f_Shelf_price : Addr} {od_Shelf_price an_Shelf_price : Option Addr} {sl_Shelf_price : Array (Option Value)} {oc_Shelf_price kV_Shelf_price dc_Shelf_price pm_Shelf_price cd_Shelf_price ct_Shelf_price : Value}
    {f_turned_pairs : Addr} {od_turned_pairs an_turned_pairs : Option Addr} {sl_turned_pairs : Array (Option Value)} {oc_turned_pairs kV_turned_pairs dc_turned_pairs pm_turned_pairs cd_turned_pairs ct_turned_pairs : Value}
    {f_overtakers : Addr} {od_overtakers an_overtakers : Option Addr} {sl_overtakers : Array (Option Value)} {oc_overtakers kV_overtakers dc_overtakers pm_overtakers cd_overtakers ct_overtakers : Value}
    {f_Line_price : Addr} {od_Line_price an_Line_price : Option Addr} {sl_Line_price : Array (Option Value)} {oc_Line_price kV_Line_price dc_Line_price pm_Line_price cd_Line_price ct_Line_price : Value}
    {f_ways_between : Addr} {od_ways_between an_ways_between : Option Addr} {sl_ways_between : Array (Option Value)} {oc_ways_between kV_ways_between dc_ways_between pm_ways_between cd_ways_between ct_ways_between : Value}
    {f_Hire_price : Addr} {od_Hire_price an_Hire_price : Option Addr} {sl_Hire_price : Array (Option Value)} {oc_Hire_price kV_Hire_price dc_Hire_price pm_Hire_price cd_Hire_price ct_Hire_price : Value}
    {f_Bags_price : Addr} {od_Bags_price an_Bags_price : Option Addr} {sl_Bags_price : Array (Option Value)} {oc_Bags_price kV_Bags_price dc_Bags_price pm_Bags_price cd_Bags_price ct_Bags_price : Value}
    {f_filled : Addr} {od_filled an_filled : Option Addr} {sl_filled : Array (Option Value)} {oc_filled kV_filled dc_filled pm_filled cd_filled ct_filled : Value}
    {f_opened : Addr} {od_opened an_opened : Option Addr} {sl_opened : Array (Option Value)} {oc_opened kV_opened dc_opened pm_opened cd_opened ct_opened : Value}
    {f_law_world : Addr} {od_law_world an_law_world : Option Addr} {sl_law_world : Array (Option Value)} {oc_law_world kV_law_world dc_law_world pm_law_world cd_law_world ct_law_world : Value}
    {f_Bags_init : Addr} {od_Bags_init an_Bags_init : Option Addr} {sl_Bags_init : Array (Option Value)} {oc_Bags_init kV_Bags_init dc_Bags_init pm_Bags_init cd_Bags_init ct_Bags_init : Value}
    {f_Store_init : Addr} {od_Store_init an_Store_init : Option Addr} {sl_Store_init : Array (Option Value)} {oc_Store_init kV_Store_init dc_Store_init pm_Store_init cd_Store_init ct_Store_init : Value}
    {f_Ways_init : Addr} {od_Ways_init an_Ways_init : Option Addr} {sl_Ways_init : Array (Option Value)} {oc_Ways_init kV_Ways_init dc_Ways_init pm_Ways_init cd_Ways_init ct_Ways_init : Value}
    {f_Shelf_init : Addr} {od_Shelf_init an_Shelf_init : Option Addr} {sl_Shelf_init : Array (Option Value)} {oc_Shelf_init kV_Shelf_init dc_Shelf_init pm_Shelf_init cd_Shelf_init ct_Shelf_init : Value}
    {f_Line_init : Addr} {od_Line_init an_Line_init : Option Addr} {sl_Line_init : Array (Option Value)} {oc_Line_init kV_Line_init dc_Line_init pm_Line_init cd_Line_init ct_Line_init : Value}
    {f_Hire_init : Addr} {od_Hire_init an_Hire_init : Option Addr} {sl_Hire_init : Array (Option Value)} {oc_Hire_init kV_Hire_init dc_Hire_init pm_Hire_init cd_Hire_init ct_Hire_init : Value}
    {f_law_way : Addr} {od_law_way an_law_way : Option Addr} {sl_law_way : Array (Option Value)} {oc_law_way kV_law_way dc_law_way pm_law_way cd_law_way ct_law_way : Value}
    {f_law_strayed : Addr} {od_law_strayed an_law_strayed : Option Addr} {sl_law_strayed : Array (Option Value)} {oc_law_strayed kV_law_strayed dc_law_strayed pm_law_strayed cd_law_strayed ct_law_strayed : Value}
    {f_law_after : Addr} {od_law_after an_law_after : Option Addr} {sl_law_after : Array (Option Value)} {oc_law_after kV_law_after dc_law_after pm_law_after cd_law_after ct_law_after : Value}
    {f_law_put_out : Addr} {od_law_put_out an_law_put_out : Option Addr} {sl_law_put_out : Array (Option Value)} {oc_law_put_out kV_law_put_out dc_law_put_out pm_law_put_out cd_law_put_out ct_law_put_out : Value}
    {f_law_orders : Addr} {od_law_orders an_law_orders : Option Addr} {sl_law_orders : Array (Option Value)} {oc_law_orders kV_law_orders dc_law_orders pm_law_orders cd_law_orders ct_law_orders : Value}
    {f_law_mixed : Addr} {od_law_mixed an_law_mixed : Option Addr} {sl_law_mixed : Array (Option Value)} {oc_law_mixed kV_law_mixed dc_law_mixed pm_law_mixed cd_law_mixed ct_law_mixed : Value}
    {f_law_cell : Addr} {od_law_cell an_law_cell : Option Addr} {sl_law_cell : Array (Option Value)} {oc_law_cell kV_law_cell dc_law_cell pm_law_cell cd_law_cell ct_law_cell : Value}
    {f_law_game : Addr} {od_law_game an_law_game : Option Addr} {sl_law_game : Array (Option Value)} {oc_law_game kV_law_game dc_law_game pm_law_game cd_law_game ct_law_game : Value}
    {f_law_sizes : Addr} {od_law_sizes an_law_sizes : Option Addr} {sl_law_sizes : Array (Option Value)} {oc_law_sizes kV_law_sizes dc_law_sizes pm_law_sizes cd_law_sizes ct_law_sizes : Value}
    {f_law_sum : Addr} {od_law_sum an_law_sum : Option Addr} {sl_law_sum : Array (Option Value)} {oc_law_sum kV_law_sum dc_law_sum pm_law_sum cd_law_sum ct_law_sum : Value}
    {f_law_pages : Addr} {od_law_pages an_law_pages : Option Addr} {sl_law_pages : Array (Option Value)} {oc_law_pages kV_law_pages dc_law_pages pm_law_pages cd_law_pages ct_law_pages : Value}
    {f_law_names : Addr} {od_law_names an_law_names : Option Addr} {sl_law_names : Array (Option Value)} {oc_law_names kV_law_names dc_law_names pm_law_names cd_law_names ct_law_names : Value}
    {f_law_charged : Addr} {od_law_charged an_law_charged : Option Addr} {sl_law_charged : Array (Option Value)} {oc_law_charged kV_law_charged dc_law_charged pm_law_charged cd_law_charged ct_law_charged : Value}
    {f_law_things : Addr} {od_law_things an_law_things : Option Addr} {sl_law_things : Array (Option Value)} {oc_law_things kV_law_things dc_law_things pm_law_things cd_law_things ct_law_things : Value}
    {f_law_places : Addr} {od_law_places an_law_places : Option Addr} {sl_law_places : Array (Option Value)} {oc_law_places kV_law_places dc_law_places pm_law_places cd_law_places ct_law_places : Value}
    {f_law_hires : Addr} {od_law_hires an_law_hires : Option Addr} {sl_law_hires : Array (Option Value)} {oc_law_hires kV_law_hires dc_law_hires pm_law_hires cd_law_hires ct_law_hires : Value}
    {c_Bags : Addr}
    {c_Hire : Addr}
    {c_Line : Addr}
    {c_Shelf : Addr}
    {c_Store : Addr}
    {c_Ways : Addr}
    {t_MOST_BAGS : Tok}
    (aC_Bags : PySem.W.nsIn K mainGlobals "Bags" = some (some (.ref c_Bags)))
    (aC_Hire : PySem.W.nsIn K mainGlobals "Hire" = some (some (.ref c_Hire)))
    (aC_Line : PySem.W.nsIn K mainGlobals "Line" = some (some (.ref c_Line)))
    (aC_Shelf : PySem.W.nsIn K mainGlobals "Shelf" = some (some (.ref c_Shelf)))
    (aC_Store : PySem.W.nsIn K mainGlobals "Store" = some (some (.ref c_Store)))
    (aC_Ways : PySem.W.nsIn K mainGlobals "Ways" = some (some (.ref c_Ways)))
    (a_law : PySem.W.nsIn K mainGlobals "law" = some (some (.ref f_law)))
    (l_law : K.lookup f_law = some ⟨oc_law, od_law, .func (PySem.W.fnOf "law" "law" (defArgs s_law) (defBody s_law) (defScope s_law) (.none) kV_law dc_law pm_law an_law cd_law ct_law), sl_law⟩)
    (k_law : PySem.W.codeIn K cd_law "law" = true)
    (p_law : PySem.W.keepIn K (.ref f_law) = true)
    (a_law_same : PySem.W.nsIn K mainGlobals "_law_same" = some (some (.ref f_law_same)))
    (l_law_same : K.lookup f_law_same = some ⟨oc_law_same, od_law_same, .func (PySem.W.fnOf "_law_same" "_law_same" (defArgs s_law_same) (defBody s_law_same) (defScope s_law_same) (.none) kV_law_same dc_law_same pm_law_same an_law_same cd_law_same ct_law_same), sl_law_same⟩)
    (k_law_same : PySem.W.codeIn K cd_law_same "_law_same" = true)
    (p_law_same : PySem.W.keepIn K (.ref f_law_same) = true)
    (a_law_whole : PySem.W.nsIn K mainGlobals "_law_whole" = some (some (.ref f_law_whole)))
    (l_law_whole : K.lookup f_law_whole = some ⟨oc_law_whole, od_law_whole, .func (PySem.W.fnOf "_law_whole" "_law_whole" (defArgs s_law_whole) (defBody s_law_whole) (defScope s_law_whole) (.none) kV_law_whole dc_law_whole pm_law_whole an_law_whole cd_law_whole ct_law_whole), sl_law_whole⟩)
    (k_law_whole : PySem.W.codeIn K cd_law_whole "_law_whole" = true)
    (p_law_whole : PySem.W.keepIn K (.ref f_law_whole) = true)
    (a_law_all_same : PySem.W.nsIn K mainGlobals "_law_all_same" = some (some (.ref f_law_all_same)))
    (l_law_all_same : K.lookup f_law_all_same = some ⟨oc_law_all_same, od_law_all_same, .func (PySem.W.fnOf "_law_all_same" "_law_all_same" (defArgs s_law_all_same) (defBody s_law_all_same) (defScope s_law_all_same) (.none) kV_law_all_same dc_law_all_same pm_law_all_same an_law_all_same cd_law_all_same ct_law_all_same), sl_law_all_same⟩)
    (k_law_all_same : PySem.W.codeIn K cd_law_all_same "_law_all_same" = true)
    (p_law_all_same : PySem.W.keepIn K (.ref f_law_all_same) = true)
    (a_law_due : PySem.W.nsIn K mainGlobals "_law_due" = some (some (.ref f_law_due)))
    (l_law_due : K.lookup f_law_due = some ⟨oc_law_due, od_law_due, .func (PySem.W.fnOf "_law_due" "_law_due" (defArgs s_law_due) (defBody s_law_due) (defScope s_law_due) (.none) kV_law_due dc_law_due pm_law_due an_law_due cd_law_due ct_law_due), sl_law_due⟩)
    (k_law_due : PySem.W.codeIn K cd_law_due "_law_due" = true)
    (p_law_due : PySem.W.keepIn K (.ref f_law_due) = true)
    (a_law_price : PySem.W.nsIn K mainGlobals "_law_price" = some (some (.ref f_law_price)))
    (l_law_price : K.lookup f_law_price = some ⟨oc_law_price, od_law_price, .func (PySem.W.fnOf "_law_price" "_law_price" (defArgs s_law_price) (defBody s_law_price) (defScope s_law_price) (.none) kV_law_price dc_law_price pm_law_price an_law_price cd_law_price ct_law_price), sl_law_price⟩)
    (k_law_price : PySem.W.codeIn K cd_law_price "_law_price" = true)
    (p_law_price : PySem.W.keepIn K (.ref f_law_price) = true)
    (a_law_put : PySem.W.nsIn K mainGlobals "_law_put" = some (some (.ref f_law_put)))
    (l_law_put : K.lookup f_law_put = some ⟨oc_law_put, od_law_put, .func (PySem.W.fnOf "_law_put" "_law_put" (defArgs s_law_put) (defBody s_law_put) (defScope s_law_put) (.none) kV_law_put dc_law_put pm_law_put an_law_put cd_law_put ct_law_put), sl_law_put⟩)
    (k_law_put : PySem.W.codeIn K cd_law_put "_law_put" = true)
    (p_law_put : PySem.W.keepIn K (.ref f_law_put) = true)
    (a_law_turned : PySem.W.nsIn K mainGlobals "_law_turned" = some (some (.ref f_law_turned)))
    (l_law_turned : K.lookup f_law_turned = some ⟨oc_law_turned, od_law_turned, .func (PySem.W.fnOf "_law_turned" "_law_turned" (defArgs s_law_turned) (defBody s_law_turned) (defScope s_law_turned) (.none) kV_law_turned dc_law_turned pm_law_turned an_law_turned cd_law_turned ct_law_turned), sl_law_turned⟩)
    (k_law_turned : PySem.W.codeIn K cd_law_turned "_law_turned" = true)
    (p_law_turned : PySem.W.keepIn K (.ref f_law_turned) = true)
    (a_way_price : PySem.W.nsIn K mainGlobals "way_price" = some (some (.ref f_way_price)))
    (l_way_price : K.lookup f_way_price = some ⟨oc_way_price, od_way_price, .func (PySem.W.fnOf "way_price" "way_price" (defArgs s_way_price) (defBody s_way_price) (defScope s_way_price) (.none) kV_way_price dc_way_price pm_way_price an_way_price cd_way_price ct_way_price), sl_way_price⟩)
    (k_way_price : PySem.W.codeIn K cd_way_price "way_price" = true)
    (p_way_price : PySem.W.keepIn K (.ref f_way_price) = true)
    (a_Ways_price : PySem.W.findIn K (.ref c_Ways) "price" = some (some (.ref f_Ways_price)))
    (l_Ways_price : K.lookup f_Ways_price = some ⟨oc_Ways_price, od_Ways_price, .func (PySem.W.fnOf "price" "Ways.price" (defArgs s_Ways_price) (defBody s_Ways_price) (defScope s_Ways_price) (.none) kV_Ways_price dc_Ways_price pm_Ways_price an_Ways_price cd_Ways_price ct_Ways_price), sl_Ways_price⟩)
    (k_Ways_price : PySem.W.codeIn K cd_Ways_price "Ways.price" = true)
    (p_Ways_price : PySem.W.keepIn K (.ref f_Ways_price) = true)
    (a_Store_price : PySem.W.findIn K (.ref c_Store) "price" = some (some (.ref f_Store_price)))
    (l_Store_price : K.lookup f_Store_price = some ⟨oc_Store_price, od_Store_price, .func (PySem.W.fnOf "price" "Store.price" (defArgs s_Store_price) (defBody s_Store_price) (defScope s_Store_price) (.none) kV_Store_price dc_Store_price pm_Store_price an_Store_price cd_Store_price ct_Store_price), sl_Store_price⟩)
    (k_Store_price : PySem.W.codeIn K cd_Store_price "Store.price" = true)
    (p_Store_price : PySem.W.keepIn K (.ref f_Store_price) = true)
    (a_Shelf_price : PySem.W.findIn K (.ref c_Shelf) "price" = some (some (.ref f_Shelf_price)))
    (l_Shelf_price : K.lookup f_Shelf_price = some ⟨oc_Shelf_price, od_Shelf_price, .func (PySem.W.fnOf "price" "Shelf.price" (defArgs s_Shelf_price) (defBody s_Shelf_price) (defScope s_Shelf_price) (.none) kV_Shelf_price dc_Shelf_price pm_Shelf_price an_Shelf_price cd_Shelf_price ct_Shelf_price), sl_Shelf_price⟩)
    (k_Shelf_price : PySem.W.codeIn K cd_Shelf_price "Shelf.price" = true)
    (p_Shelf_price : PySem.W.keepIn K (.ref f_Shelf_price) = true)
    (a_turned_pairs : PySem.W.nsIn K mainGlobals "turned_pairs" = some (some (.ref f_turned_pairs)))
    (l_turned_pairs : K.lookup f_turned_pairs = some ⟨oc_turned_pairs, od_turned_pairs, .func (PySem.W.fnOf "turned_pairs" "turned_pairs" (defArgs s_turned_pairs) (defBody s_turned_pairs) (defScope s_turned_pairs) (.none) kV_turned_pairs dc_turned_pairs pm_turned_pairs an_turned_pairs cd_turned_pairs ct_turned_pairs), sl_turned_pairs⟩)
    (k_turned_pairs : PySem.W.codeIn K cd_turned_pairs "turned_pairs" = true)
    (p_turned_pairs : PySem.W.keepIn K (.ref f_turned_pairs) = true)
    (a_overtakers : PySem.W.nsIn K mainGlobals "overtakers" = some (some (.ref f_overtakers)))
    (l_overtakers : K.lookup f_overtakers = some ⟨oc_overtakers, od_overtakers, .func (PySem.W.fnOf "overtakers" "overtakers" (defArgs s_overtakers) (defBody s_overtakers) (defScope s_overtakers) (.none) kV_overtakers dc_overtakers pm_overtakers an_overtakers cd_overtakers ct_overtakers), sl_overtakers⟩)
    (k_overtakers : PySem.W.codeIn K cd_overtakers "overtakers" = true)
    (p_overtakers : PySem.W.keepIn K (.ref f_overtakers) = true)
    (a_Line_price : PySem.W.findIn K (.ref c_Line) "price" = some (some (.ref f_Line_price)))
    (l_Line_price : K.lookup f_Line_price = some ⟨oc_Line_price, od_Line_price, .func (PySem.W.fnOf "price" "Line.price" (defArgs s_Line_price) (defBody s_Line_price) (defScope s_Line_price) (.none) kV_Line_price dc_Line_price pm_Line_price an_Line_price cd_Line_price ct_Line_price), sl_Line_price⟩)
    (k_Line_price : PySem.W.codeIn K cd_Line_price "Line.price" = true)
    (p_Line_price : PySem.W.keepIn K (.ref f_Line_price) = true)
    (a_ways_between : PySem.W.nsIn K mainGlobals "ways_between" = some (some (.ref f_ways_between)))
    (l_ways_between : K.lookup f_ways_between = some ⟨oc_ways_between, od_ways_between, .func (PySem.W.fnOf "ways_between" "ways_between" (defArgs s_ways_between) (defBody s_ways_between) (defScope s_ways_between) (.none) kV_ways_between dc_ways_between pm_ways_between an_ways_between cd_ways_between ct_ways_between), sl_ways_between⟩)
    (k_ways_between : PySem.W.codeIn K cd_ways_between "ways_between" = true)
    (p_ways_between : PySem.W.keepIn K (.ref f_ways_between) = true)
    (a_Hire_price : PySem.W.findIn K (.ref c_Hire) "price" = some (some (.ref f_Hire_price)))
    (l_Hire_price : K.lookup f_Hire_price = some ⟨oc_Hire_price, od_Hire_price, .func (PySem.W.fnOf "price" "Hire.price" (defArgs s_Hire_price) (defBody s_Hire_price) (defScope s_Hire_price) (.none) kV_Hire_price dc_Hire_price pm_Hire_price an_Hire_price cd_Hire_price ct_Hire_price), sl_Hire_price⟩)
    (k_Hire_price : PySem.W.codeIn K cd_Hire_price "Hire.price" = true)
    (p_Hire_price : PySem.W.keepIn K (.ref f_Hire_price) = true)
    (a_Bags_price : PySem.W.findIn K (.ref c_Bags) "price" = some (some (.ref f_Bags_price)))
    (l_Bags_price : K.lookup f_Bags_price = some ⟨oc_Bags_price, od_Bags_price, .func (PySem.W.fnOf "price" "Bags.price" (defArgs s_Bags_price) (defBody s_Bags_price) (defScope s_Bags_price) (.none) kV_Bags_price dc_Bags_price pm_Bags_price an_Bags_price cd_Bags_price ct_Bags_price), sl_Bags_price⟩)
    (k_Bags_price : PySem.W.codeIn K cd_Bags_price "Bags.price" = true)
    (p_Bags_price : PySem.W.keepIn K (.ref f_Bags_price) = true)
    (a_filled : PySem.W.nsIn K mainGlobals "filled" = some (some (.ref f_filled)))
    (l_filled : K.lookup f_filled = some ⟨oc_filled, od_filled, .func (PySem.W.fnOf "filled" "filled" (defArgs s_filled) (defBody s_filled) (defScope s_filled) (.none) kV_filled dc_filled pm_filled an_filled cd_filled ct_filled), sl_filled⟩)
    (k_filled : PySem.W.codeIn K cd_filled "filled" = true)
    (p_filled : PySem.W.keepIn K (.ref f_filled) = true)
    (a_opened : PySem.W.nsIn K mainGlobals "opened" = some (some (.ref f_opened)))
    (l_opened : K.lookup f_opened = some ⟨oc_opened, od_opened, .func (PySem.W.fnOf "opened" "opened" (defArgs s_opened) (defBody s_opened) (defScope s_opened) (.none) kV_opened dc_opened pm_opened an_opened cd_opened ct_opened), sl_opened⟩)
    (k_opened : PySem.W.codeIn K cd_opened "opened" = true)
    (p_opened : PySem.W.keepIn K (.ref f_opened) = true)
    (a_law_world : PySem.W.nsIn K mainGlobals "_law_world" = some (some (.ref f_law_world)))
    (l_law_world : K.lookup f_law_world = some ⟨oc_law_world, od_law_world, .func (PySem.W.fnOf "_law_world" "_law_world" (defArgs s_law_world) (defBody s_law_world) (defScope s_law_world) (.none) kV_law_world dc_law_world pm_law_world an_law_world cd_law_world ct_law_world), sl_law_world⟩)
    (k_law_world : PySem.W.codeIn K cd_law_world "_law_world" = true)
    (p_law_world : PySem.W.keepIn K (.ref f_law_world) = true)
    (a_Bags_init : PySem.W.findIn K (.ref c_Bags) "__init__" = some (some (.ref f_Bags_init)))
    (l_Bags_init : K.lookup f_Bags_init = some ⟨oc_Bags_init, od_Bags_init, .func (PySem.W.fnOf "__init__" "Bags.__init__" (defArgs s_Bags_init) (defBody s_Bags_init) (defScope s_Bags_init) (.none) kV_Bags_init dc_Bags_init pm_Bags_init an_Bags_init cd_Bags_init ct_Bags_init), sl_Bags_init⟩)
    (k_Bags_init : PySem.W.codeIn K cd_Bags_init "Bags.__init__" = true)
    (p_Bags_init : PySem.W.keepIn K (.ref f_Bags_init) = true)
    (a_Store_init : PySem.W.findIn K (.ref c_Store) "__init__" = some (some (.ref f_Store_init)))
    (l_Store_init : K.lookup f_Store_init = some ⟨oc_Store_init, od_Store_init, .func (PySem.W.fnOf "__init__" "Store.__init__" (defArgs s_Store_init) (defBody s_Store_init) (defScope s_Store_init) (.none) kV_Store_init dc_Store_init pm_Store_init an_Store_init cd_Store_init ct_Store_init), sl_Store_init⟩)
    (k_Store_init : PySem.W.codeIn K cd_Store_init "Store.__init__" = true)
    (p_Store_init : PySem.W.keepIn K (.ref f_Store_init) = true)
    (a_Ways_init : PySem.W.findIn K (.ref c_Ways) "__init__" = some (some (.ref f_Ways_init)))
    (l_Ways_init : K.lookup f_Ways_init = some ⟨oc_Ways_init, od_Ways_init, .func (PySem.W.fnOf "__init__" "Ways.__init__" (defArgs s_Ways_init) (defBody s_Ways_init) (defScope s_Ways_init) (.none) kV_Ways_init dc_Ways_init pm_Ways_init an_Ways_init cd_Ways_init ct_Ways_init), sl_Ways_init⟩)
    (k_Ways_init : PySem.W.codeIn K cd_Ways_init "Ways.__init__" = true)
    (p_Ways_init : PySem.W.keepIn K (.ref f_Ways_init) = true)
    (a_Shelf_init : PySem.W.findIn K (.ref c_Shelf) "__init__" = some (some (.ref f_Shelf_init)))
    (l_Shelf_init : K.lookup f_Shelf_init = some ⟨oc_Shelf_init, od_Shelf_init, .func (PySem.W.fnOf "__init__" "Shelf.__init__" (defArgs s_Shelf_init) (defBody s_Shelf_init) (defScope s_Shelf_init) (.none) kV_Shelf_init dc_Shelf_init pm_Shelf_init an_Shelf_init cd_Shelf_init ct_Shelf_init), sl_Shelf_init⟩)
    (k_Shelf_init : PySem.W.codeIn K cd_Shelf_init "Shelf.__init__" = true)
    (p_Shelf_init : PySem.W.keepIn K (.ref f_Shelf_init) = true)
    (a_Line_init : PySem.W.findIn K (.ref c_Line) "__init__" = some (some (.ref f_Line_init)))
    (l_Line_init : K.lookup f_Line_init = some ⟨oc_Line_init, od_Line_init, .func (PySem.W.fnOf "__init__" "Line.__init__" (defArgs s_Line_init) (defBody s_Line_init) (defScope s_Line_init) (.none) kV_Line_init dc_Line_init pm_Line_init an_Line_init cd_Line_init ct_Line_init), sl_Line_init⟩)
    (k_Line_init : PySem.W.codeIn K cd_Line_init "Line.__init__" = true)
    (p_Line_init : PySem.W.keepIn K (.ref f_Line_init) = true)
    (a_Hire_init : PySem.W.findIn K (.ref c_Hire) "__init__" = some (some (.ref f_Hire_init)))
    (l_Hire_init : K.lookup f_Hire_init = some ⟨oc_Hire_init, od_Hire_init, .func (PySem.W.fnOf "__init__" "Hire.__init__" (defArgs s_Hire_init) (defBody s_Hire_init) (defScope s_Hire_init) (.none) kV_Hire_init dc_Hire_init pm_Hire_init an_Hire_init cd_Hire_init ct_Hire_init), sl_Hire_init⟩)
    (k_Hire_init : PySem.W.codeIn K cd_Hire_init "Hire.__init__" = true)
    (p_Hire_init : PySem.W.keepIn K (.ref f_Hire_init) = true)
    (a_law_way : PySem.W.nsIn K mainGlobals "_law_way" = some (some (.ref f_law_way)))
    (l_law_way : K.lookup f_law_way = some ⟨oc_law_way, od_law_way, .func (PySem.W.fnOf "_law_way" "_law_way" (defArgs s_law_way) (defBody s_law_way) (defScope s_law_way) (.none) kV_law_way dc_law_way pm_law_way an_law_way cd_law_way ct_law_way), sl_law_way⟩)
    (k_law_way : PySem.W.codeIn K cd_law_way "_law_way" = true)
    (p_law_way : PySem.W.keepIn K (.ref f_law_way) = true)
    (a_law_strayed : PySem.W.nsIn K mainGlobals "_law_strayed" = some (some (.ref f_law_strayed)))
    (l_law_strayed : K.lookup f_law_strayed = some ⟨oc_law_strayed, od_law_strayed, .func (PySem.W.fnOf "_law_strayed" "_law_strayed" (defArgs s_law_strayed) (defBody s_law_strayed) (defScope s_law_strayed) (.none) kV_law_strayed dc_law_strayed pm_law_strayed an_law_strayed cd_law_strayed ct_law_strayed), sl_law_strayed⟩)
    (k_law_strayed : PySem.W.codeIn K cd_law_strayed "_law_strayed" = true)
    (p_law_strayed : PySem.W.keepIn K (.ref f_law_strayed) = true)
    (a_law_after : PySem.W.nsIn K mainGlobals "_law_after" = some (some (.ref f_law_after)))
    (l_law_after : K.lookup f_law_after = some ⟨oc_law_after, od_law_after, .func (PySem.W.fnOf "_law_after" "_law_after" (defArgs s_law_after) (defBody s_law_after) (defScope s_law_after) (.none) kV_law_after dc_law_after pm_law_after an_law_after cd_law_after ct_law_after), sl_law_after⟩)
    (k_law_after : PySem.W.codeIn K cd_law_after "_law_after" = true)
    (p_law_after : PySem.W.keepIn K (.ref f_law_after) = true)
    (a_law_put_out : PySem.W.nsIn K mainGlobals "_law_put_out" = some (some (.ref f_law_put_out)))
    (l_law_put_out : K.lookup f_law_put_out = some ⟨oc_law_put_out, od_law_put_out, .func (PySem.W.fnOf "_law_put_out" "_law_put_out" (defArgs s_law_put_out) (defBody s_law_put_out) (defScope s_law_put_out) (.none) kV_law_put_out dc_law_put_out pm_law_put_out an_law_put_out cd_law_put_out ct_law_put_out), sl_law_put_out⟩)
    (k_law_put_out : PySem.W.codeIn K cd_law_put_out "_law_put_out" = true)
    (p_law_put_out : PySem.W.keepIn K (.ref f_law_put_out) = true)
    (a_law_orders : PySem.W.nsIn K mainGlobals "_law_orders" = some (some (.ref f_law_orders)))
    (l_law_orders : K.lookup f_law_orders = some ⟨oc_law_orders, od_law_orders, .func (PySem.W.fnOf "_law_orders" "_law_orders" (defArgs s_law_orders) (defBody s_law_orders) (defScope s_law_orders) (.none) kV_law_orders dc_law_orders pm_law_orders an_law_orders cd_law_orders ct_law_orders), sl_law_orders⟩)
    (k_law_orders : PySem.W.codeIn K cd_law_orders "_law_orders" = true)
    (p_law_orders : PySem.W.keepIn K (.ref f_law_orders) = true)
    (a_law_mixed : PySem.W.nsIn K mainGlobals "_law_mixed" = some (some (.ref f_law_mixed)))
    (l_law_mixed : K.lookup f_law_mixed = some ⟨oc_law_mixed, od_law_mixed, .func (PySem.W.fnOf "_law_mixed" "_law_mixed" (defArgs s_law_mixed) (defBody s_law_mixed) (defScope s_law_mixed) (.none) kV_law_mixed dc_law_mixed pm_law_mixed an_law_mixed cd_law_mixed ct_law_mixed), sl_law_mixed⟩)
    (k_law_mixed : PySem.W.codeIn K cd_law_mixed "_law_mixed" = true)
    (p_law_mixed : PySem.W.keepIn K (.ref f_law_mixed) = true)
    (a_law_cell : PySem.W.nsIn K mainGlobals "_law_cell" = some (some (.ref f_law_cell)))
    (l_law_cell : K.lookup f_law_cell = some ⟨oc_law_cell, od_law_cell, .func (PySem.W.fnOf "_law_cell" "_law_cell" (defArgs s_law_cell) (defBody s_law_cell) (defScope s_law_cell) (.none) kV_law_cell dc_law_cell pm_law_cell an_law_cell cd_law_cell ct_law_cell), sl_law_cell⟩)
    (k_law_cell : PySem.W.codeIn K cd_law_cell "_law_cell" = true)
    (p_law_cell : PySem.W.keepIn K (.ref f_law_cell) = true)
    (a_law_game : PySem.W.nsIn K mainGlobals "_law_game" = some (some (.ref f_law_game)))
    (l_law_game : K.lookup f_law_game = some ⟨oc_law_game, od_law_game, .func (PySem.W.fnOf "_law_game" "_law_game" (defArgs s_law_game) (defBody s_law_game) (defScope s_law_game) (.none) kV_law_game dc_law_game pm_law_game an_law_game cd_law_game ct_law_game), sl_law_game⟩)
    (k_law_game : PySem.W.codeIn K cd_law_game "_law_game" = true)
    (p_law_game : PySem.W.keepIn K (.ref f_law_game) = true)
    (a_law_sizes : PySem.W.nsIn K mainGlobals "_law_sizes" = some (some (.ref f_law_sizes)))
    (l_law_sizes : K.lookup f_law_sizes = some ⟨oc_law_sizes, od_law_sizes, .func (PySem.W.fnOf "_law_sizes" "_law_sizes" (defArgs s_law_sizes) (defBody s_law_sizes) (defScope s_law_sizes) (.none) kV_law_sizes dc_law_sizes pm_law_sizes an_law_sizes cd_law_sizes ct_law_sizes), sl_law_sizes⟩)
    (k_law_sizes : PySem.W.codeIn K cd_law_sizes "_law_sizes" = true)
    (p_law_sizes : PySem.W.keepIn K (.ref f_law_sizes) = true)
    (a_law_sum : PySem.W.nsIn K mainGlobals "_law_sum" = some (some (.ref f_law_sum)))
    (l_law_sum : K.lookup f_law_sum = some ⟨oc_law_sum, od_law_sum, .func (PySem.W.fnOf "_law_sum" "_law_sum" (defArgs s_law_sum) (defBody s_law_sum) (defScope s_law_sum) (.none) kV_law_sum dc_law_sum pm_law_sum an_law_sum cd_law_sum ct_law_sum), sl_law_sum⟩)
    (k_law_sum : PySem.W.codeIn K cd_law_sum "_law_sum" = true)
    (p_law_sum : PySem.W.keepIn K (.ref f_law_sum) = true)
    (a_law_pages : PySem.W.nsIn K mainGlobals "_law_pages" = some (some (.ref f_law_pages)))
    (l_law_pages : K.lookup f_law_pages = some ⟨oc_law_pages, od_law_pages, .func (PySem.W.fnOf "_law_pages" "_law_pages" (defArgs s_law_pages) (defBody s_law_pages) (defScope s_law_pages) (.none) kV_law_pages dc_law_pages pm_law_pages an_law_pages cd_law_pages ct_law_pages), sl_law_pages⟩)
    (k_law_pages : PySem.W.codeIn K cd_law_pages "_law_pages" = true)
    (p_law_pages : PySem.W.keepIn K (.ref f_law_pages) = true)
    (a_law_names : PySem.W.nsIn K mainGlobals "_law_names" = some (some (.ref f_law_names)))
    (l_law_names : K.lookup f_law_names = some ⟨oc_law_names, od_law_names, .func (PySem.W.fnOf "_law_names" "_law_names" (defArgs s_law_names) (defBody s_law_names) (defScope s_law_names) (.none) kV_law_names dc_law_names pm_law_names an_law_names cd_law_names ct_law_names), sl_law_names⟩)
    (k_law_names : PySem.W.codeIn K cd_law_names "_law_names" = true)
    (p_law_names : PySem.W.keepIn K (.ref f_law_names) = true)
    (a_law_charged : PySem.W.nsIn K mainGlobals "_law_charged" = some (some (.ref f_law_charged)))
    (l_law_charged : K.lookup f_law_charged = some ⟨oc_law_charged, od_law_charged, .func (PySem.W.fnOf "_law_charged" "_law_charged" (defArgs s_law_charged) (defBody s_law_charged) (defScope s_law_charged) (.none) kV_law_charged dc_law_charged pm_law_charged an_law_charged cd_law_charged ct_law_charged), sl_law_charged⟩)
    (k_law_charged : PySem.W.codeIn K cd_law_charged "_law_charged" = true)
    (p_law_charged : PySem.W.keepIn K (.ref f_law_charged) = true)
    (a_law_things : PySem.W.nsIn K mainGlobals "_law_things" = some (some (.ref f_law_things)))
    (l_law_things : K.lookup f_law_things = some ⟨oc_law_things, od_law_things, .func (PySem.W.fnOf "_law_things" "_law_things" (defArgs s_law_things) (defBody s_law_things) (defScope s_law_things) (.none) kV_law_things dc_law_things pm_law_things an_law_things cd_law_things ct_law_things), sl_law_things⟩)
    (k_law_things : PySem.W.codeIn K cd_law_things "_law_things" = true)
    (p_law_things : PySem.W.keepIn K (.ref f_law_things) = true)
    (a_law_places : PySem.W.nsIn K mainGlobals "_law_places" = some (some (.ref f_law_places)))
    (l_law_places : K.lookup f_law_places = some ⟨oc_law_places, od_law_places, .func (PySem.W.fnOf "_law_places" "_law_places" (defArgs s_law_places) (defBody s_law_places) (defScope s_law_places) (.none) kV_law_places dc_law_places pm_law_places an_law_places cd_law_places ct_law_places), sl_law_places⟩)
    (k_law_places : PySem.W.codeIn K cd_law_places "_law_places" = true)
    (p_law_places : PySem.W.keepIn K (.ref f_law_places) = true)
    (a_law_hires : PySem.W.nsIn K mainGlobals "_law_hires" = some (some (.ref f_law_hires)))
    (l_law_hires : K.lookup f_law_hires = some ⟨oc_law_hires, od_law_hires, .func (PySem.W.fnOf "_law_hires" "_law_hires" (defArgs s_law_hires) (defBody s_law_hires) (defScope s_law_hires) (.none) kV_law_hires dc_law_hires pm_law_hires an_law_hires cd_law_hires ct_law_hires), sl_law_hires⟩)
    (k_law_hires : PySem.W.codeIn K cd_law_hires "_law_hires" = true)
    (p_law_hires : PySem.W.keepIn K (.ref f_law_hires) = true)
    (cg_Bags : PySem.W.plainGet K c_Bags Str.empty = true)
    (ch_Bags : PySem.W.hasDictIn K c_Bags = true)
    (co_Bags : PySem.W.plainOver K c_Bags = true)
    (cs_Bags : PySem.W.findIn K (.ref c_Bags) "__setattr__" = some (some (.builtin "object.__setattr__")))
    (mm_Bags : PySem.W.makesIn K c_Bags = true)
    (mi_Bags : PySem.W.findIn K (.ref c_Bags) "__init__" = some (some (.ref f_Bags_init)))
    (mf_Bags : PySem.W.isFn K (.ref f_Bags_init) = true)
    (mp_Bags : PySem.W.keepIn K (.ref c_Bags) = true)
    (na_Bags_room : PySem.W.findIn K (.ref c_Bags) "room" = some none)
    (ea_Bags_price : PySem.W.findIn K (.ref c_Bags) "price" = some (some (.ref f_Bags_price)))
    (ef_Bags_price : PySem.W.isFn K (.ref f_Bags_price) = true)
    (cg_Hire : PySem.W.plainGet K c_Hire Str.empty = true)
    (ch_Hire : PySem.W.hasDictIn K c_Hire = true)
    (co_Hire : PySem.W.plainOver K c_Hire = true)
    (cs_Hire : PySem.W.findIn K (.ref c_Hire) "__setattr__" = some (some (.builtin "object.__setattr__")))
    (mm_Hire : PySem.W.makesIn K c_Hire = true)
    (mi_Hire : PySem.W.findIn K (.ref c_Hire) "__init__" = some (some (.ref f_Hire_init)))
    (mf_Hire : PySem.W.isFn K (.ref f_Hire_init) = true)
    (mp_Hire : PySem.W.keepIn K (.ref c_Hire) = true)
    (na_Hire_whole : PySem.W.findIn K (.ref c_Hire) "whole" = some none)
    (ea_Hire_price : PySem.W.findIn K (.ref c_Hire) "price" = some (some (.ref f_Hire_price)))
    (ef_Hire_price : PySem.W.isFn K (.ref f_Hire_price) = true)
    (cg_Line : PySem.W.plainGet K c_Line Str.empty = true)
    (ch_Line : PySem.W.hasDictIn K c_Line = true)
    (co_Line : PySem.W.plainOver K c_Line = true)
    (cs_Line : PySem.W.findIn K (.ref c_Line) "__setattr__" = some (some (.builtin "object.__setattr__")))
    (mm_Line : PySem.W.makesIn K c_Line = true)
    (mi_Line : PySem.W.findIn K (.ref c_Line) "__init__" = some (some (.ref f_Line_init)))
    (mf_Line : PySem.W.isFn K (.ref f_Line_init) = true)
    (mp_Line : PySem.W.keepIn K (.ref c_Line) = true)
    (na_Line_many : PySem.W.findIn K (.ref c_Line) "many" = some none)
    (ea_Line_price : PySem.W.findIn K (.ref c_Line) "price" = some (some (.ref f_Line_price)))
    (ef_Line_price : PySem.W.isFn K (.ref f_Line_price) = true)
    (cg_Shelf : PySem.W.plainGet K c_Shelf Str.empty = true)
    (ch_Shelf : PySem.W.hasDictIn K c_Shelf = true)
    (co_Shelf : PySem.W.plainOver K c_Shelf = true)
    (cs_Shelf : PySem.W.findIn K (.ref c_Shelf) "__setattr__" = some (some (.builtin "object.__setattr__")))
    (mm_Shelf : PySem.W.makesIn K c_Shelf = true)
    (mi_Shelf : PySem.W.findIn K (.ref c_Shelf) "__init__" = some (some (.ref f_Shelf_init)))
    (mf_Shelf : PySem.W.isFn K (.ref f_Shelf_init) = true)
    (mp_Shelf : PySem.W.keepIn K (.ref c_Shelf) = true)
    (na_Shelf_things : PySem.W.findIn K (.ref c_Shelf) "things" = some none)
    (ea_Shelf_price : PySem.W.findIn K (.ref c_Shelf) "price" = some (some (.ref f_Shelf_price)))
    (ef_Shelf_price : PySem.W.isFn K (.ref f_Shelf_price) = true)
    (cg_Store : PySem.W.plainGet K c_Store Str.empty = true)
    (ch_Store : PySem.W.hasDictIn K c_Store = true)
    (co_Store : PySem.W.plainOver K c_Store = true)
    (cs_Store : PySem.W.findIn K (.ref c_Store) "__setattr__" = some (some (.builtin "object.__setattr__")))
    (mm_Store : PySem.W.makesIn K c_Store = true)
    (mi_Store : PySem.W.findIn K (.ref c_Store) "__init__" = some (some (.ref f_Store_init)))
    (mf_Store : PySem.W.isFn K (.ref f_Store_init) = true)
    (mp_Store : PySem.W.keepIn K (.ref c_Store) = true)
    (na_Store_many : PySem.W.findIn K (.ref c_Store) "many" = some none)
    (ea_Store_price : PySem.W.findIn K (.ref c_Store) "price" = some (some (.ref f_Store_price)))
    (ef_Store_price : PySem.W.isFn K (.ref f_Store_price) = true)
    (cg_Ways : PySem.W.plainGet K c_Ways Str.empty = true)
    (ch_Ways : PySem.W.hasDictIn K c_Ways = true)
    (co_Ways : PySem.W.plainOver K c_Ways = true)
    (cs_Ways : PySem.W.findIn K (.ref c_Ways) "__setattr__" = some (some (.builtin "object.__setattr__")))
    (mm_Ways : PySem.W.makesIn K c_Ways = true)
    (mi_Ways : PySem.W.findIn K (.ref c_Ways) "__init__" = some (some (.ref f_Ways_init)))
    (mf_Ways : PySem.W.isFn K (.ref f_Ways_init) = true)
    (mp_Ways : PySem.W.keepIn K (.ref c_Ways) = true)
    (na_Ways_many : PySem.W.findIn K (.ref c_Ways) "many" = some none)
    (na_Ways_toll : PySem.W.findIn K (.ref c_Ways) "toll" = some none)
    (ea_Ways_price : PySem.W.findIn K (.ref c_Ways) "price" = some (some (.ref f_Ways_price)))
    (ef_Ways_price : PySem.W.isFn K (.ref f_Ways_price) = true)
    (z_abs : PySem.W.nsIn K mainGlobals "abs" = some none)
    (z_bool : PySem.W.nsIn K mainGlobals "bool" = some none)
    (z_int : PySem.W.nsIn K mainGlobals "int" = some none)
    (z_isinstance : PySem.W.nsIn K mainGlobals "isinstance" = some none)
    (z_len : PySem.W.nsIn K mainGlobals "len" = some none)
    (z_list : PySem.W.nsIn K mainGlobals "list" = some none)
    (z_max : PySem.W.nsIn K mainGlobals "max" = some none)
    (z_min : PySem.W.nsIn K mainGlobals "min" = some none)
    (z_range : PySem.W.nsIn K mainGlobals "range" = some none)
    (z_sorted : PySem.W.nsIn K mainGlobals "sorted" = some none)
    (z_str : PySem.W.nsIn K mainGlobals "str" = some none)
    (z_sum : PySem.W.nsIn K mainGlobals "sum" = some none)
    (z_tuple : PySem.W.nsIn K mainGlobals "tuple" = some none)
    (z_zip : PySem.W.nsIn K mainGlobals "zip" = some none)
    (zk_MOST_BAGS : PySem.W.nsIn K mainGlobals "MOST_BAGS" = some (some (.int 500 t_MOST_BAGS))) :
    ∃ fd : FuncData, (∀ (s : Shared) (v : Value), BindsTo s fd ⟨[v], []⟩ [("_law_script", v)]) ∧ ∀ base : Heap, K.In base → base.Ns mainGlobals mg → FnOk l.prog w K mg base (CXU l.prog w) 13 fa fd ["_law_script"] (sp_law K) := by
  have e := hfa.symm.trans (PySem.W.mg_of X G a_law)
  cases e
  have F_law := fun_mk (st := s_law) l_law k_law p_law
  have F_law_same := fun_mk (st := s_law_same) l_law_same k_law_same p_law_same
  have F_law_whole := fun_mk (st := s_law_whole) l_law_whole k_law_whole p_law_whole
  have F_law_all_same := fun_mk (st := s_law_all_same) l_law_all_same k_law_all_same p_law_all_same
  have F_law_due := fun_mk (st := s_law_due) l_law_due k_law_due p_law_due
  have F_law_price := fun_mk (st := s_law_price) l_law_price k_law_price p_law_price
  have F_law_put := fun_mk (st := s_law_put) l_law_put k_law_put p_law_put
  have F_law_turned := fun_mk (st := s_law_turned) l_law_turned k_law_turned p_law_turned
  have F_way_price := fun_mk (st := s_way_price) l_way_price k_way_price p_way_price
  have F_Ways_price := fun_mk (st := s_Ways_price) l_Ways_price k_Ways_price p_Ways_price
  have F_Store_price := fun_mk (st := s_Store_price) l_Store_price k_Store_price p_Store_price
  have F_Shelf_price := fun_mk (st := s_Shelf_price) l_Shelf_price k_Shelf_price p_Shelf_price
  have F_turned_pairs := fun_mk (st := s_turned_pairs) l_turned_pairs k_turned_pairs p_turned_pairs
  have F_overtakers := fun_mk (st := s_overtakers) l_overtakers k_overtakers p_overtakers
  have F_Line_price := fun_mk (st := s_Line_price) l_Line_price k_Line_price p_Line_price
  have F_ways_between := fun_mk (st := s_ways_between) l_ways_between k_ways_between p_ways_between
  have F_Hire_price := fun_mk (st := s_Hire_price) l_Hire_price k_Hire_price p_Hire_price
  have F_Bags_price := fun_mk (st := s_Bags_price) l_Bags_price k_Bags_price p_Bags_price
  have F_filled := fun_mk (st := s_filled) l_filled k_filled p_filled
  have F_opened := fun_mk (st := s_opened) l_opened k_opened p_opened
  have F_law_world := fun_mk (st := s_law_world) l_law_world k_law_world p_law_world
  have F_Bags_init := fun_mk (st := s_Bags_init) l_Bags_init k_Bags_init p_Bags_init
  have F_Store_init := fun_mk (st := s_Store_init) l_Store_init k_Store_init p_Store_init
  have F_Ways_init := fun_mk (st := s_Ways_init) l_Ways_init k_Ways_init p_Ways_init
  have F_Shelf_init := fun_mk (st := s_Shelf_init) l_Shelf_init k_Shelf_init p_Shelf_init
  have F_Line_init := fun_mk (st := s_Line_init) l_Line_init k_Line_init p_Line_init
  have F_Hire_init := fun_mk (st := s_Hire_init) l_Hire_init k_Hire_init p_Hire_init
  have F_law_way := fun_mk (st := s_law_way) l_law_way k_law_way p_law_way
  have F_law_strayed := fun_mk (st := s_law_strayed) l_law_strayed k_law_strayed p_law_strayed
  have F_law_after := fun_mk (st := s_law_after) l_law_after k_law_after p_law_after
  have F_law_put_out := fun_mk (st := s_law_put_out) l_law_put_out k_law_put_out p_law_put_out
  have F_law_orders := fun_mk (st := s_law_orders) l_law_orders k_law_orders p_law_orders
  have F_law_mixed := fun_mk (st := s_law_mixed) l_law_mixed k_law_mixed p_law_mixed
  have F_law_cell := fun_mk (st := s_law_cell) l_law_cell k_law_cell p_law_cell
  have F_law_game := fun_mk (st := s_law_game) l_law_game k_law_game p_law_game
  have F_law_sizes := fun_mk (st := s_law_sizes) l_law_sizes k_law_sizes p_law_sizes
  have F_law_sum := fun_mk (st := s_law_sum) l_law_sum k_law_sum p_law_sum
  have F_law_pages := fun_mk (st := s_law_pages) l_law_pages k_law_pages p_law_pages
  have F_law_names := fun_mk (st := s_law_names) l_law_names k_law_names p_law_names
  have F_law_charged := fun_mk (st := s_law_charged) l_law_charged k_law_charged p_law_charged
  have F_law_things := fun_mk (st := s_law_things) l_law_things k_law_things p_law_things
  have F_law_places := fun_mk (st := s_law_places) l_law_places k_law_places p_law_places
  have F_law_hires := fun_mk (st := s_law_hires) l_law_hires k_law_hires p_law_hires
  have b_law := F_law.binds (ps := ["_law_script"]) fun _ _ _ _ _ _ us hl => match us, hl with | [_], _ => rfl
  have b_law_same := F_law_same.binds (ps := ["_law_found", "_law_due_here"]) fun _ _ _ _ _ _ us hl => match us, hl with | [_, _], _ => rfl
  have b_law_whole := F_law_whole.binds (ps := ["_law_found"]) fun _ _ _ _ _ _ us hl => match us, hl with | [_], _ => rfl
  have b_law_all_same := F_law_all_same.binds (ps := ["_law_found", "_law_due_here"]) fun _ _ _ _ _ _ us hl => match us, hl with | [_, _], _ => rfl
  have b_law_due := F_law_due.binds (ps := ["_law_game_here", "_law_way_here"]) fun _ _ _ _ _ _ us hl => match us, hl with | [_, _], _ => rfl
  have b_law_price := F_law_price.binds (ps := ["_law_game_here", "_law_before", "_law_wish", "_law_after_here"]) fun _ _ _ _ _ _ us hl => match us, hl with | [_, _, _, _], _ => rfl
  have b_law_put := F_law_put.binds (ps := ["_law_room", "_law_before", "_law_wish", "_law_after_here"]) fun _ _ _ _ _ _ us hl => match us, hl with | [_, _, _, _], _ => rfl
  have b_law_turned := F_law_turned.binds (ps := ["_law_before", "_law_wish", "_law_after_here"]) fun _ _ _ _ _ _ us hl => match us, hl with | [_, _, _], _ => rfl
  have b_way_price := F_way_price.binds (ps := ["world", "start", "wishes", "way"]) fun _ _ _ _ _ _ us hl => match us, hl with | [_, _, _, _], _ => rfl
  have b_Ways_price := F_Ways_price.binds (ps := ["self", "before", "wish", "after"]) fun _ _ _ _ _ _ us hl => match us, hl with | [_, _, _, _], _ => rfl
  have b_Store_price := F_Store_price.binds (ps := ["self", "before", "wish", "after"]) fun _ _ _ _ _ _ us hl => match us, hl with | [_, _, _, _], _ => rfl
  have b_Shelf_price := F_Shelf_price.binds (ps := ["self", "before", "wish", "after"]) fun _ _ _ _ _ _ us hl => match us, hl with | [_, _, _, _], _ => rfl
  have b_turned_pairs := F_turned_pairs.binds (ps := ["before", "after"]) fun _ _ _ _ _ _ us hl => match us, hl with | [_, _], _ => rfl
  have b_overtakers := F_overtakers.binds (ps := ["order", "at", "other"]) fun _ _ _ _ _ _ us hl => match us, hl with | [_, _, _], _ => rfl
  have b_Line_price := F_Line_price.binds (ps := ["self", "before", "wish", "after"]) fun _ _ _ _ _ _ us hl => match us, hl with | [_, _, _, _], _ => rfl
  have b_ways_between := F_ways_between.binds (ps := ["before", "after"]) fun _ _ _ _ _ _ us hl => match us, hl with | [_, _], _ => rfl
  have b_Hire_price := F_Hire_price.binds (ps := ["self", "before", "wish", "after"]) fun _ _ _ _ _ _ us hl => match us, hl with | [_, _, _, _], _ => rfl
  have b_Bags_price := F_Bags_price.binds (ps := ["self", "before", "wish", "after"]) fun _ _ _ _ _ _ us hl => match us, hl with | [_, _, _, _], _ => rfl
  have b_filled := F_filled.binds (ps := ["loads", "at", "size"]) fun _ _ _ _ _ _ us hl => match us, hl with | [_, _, _], _ => rfl
  have b_opened := F_opened.binds (ps := ["loads", "size"]) fun _ _ _ _ _ _ us hl => match us, hl with | [_, _], _ => rfl
  have b_law_world := F_law_world.binds (ps := ["_law_game_here"]) fun _ _ _ _ _ _ us hl => match us, hl with | [_], _ => rfl
  have b_Bags_init := F_Bags_init.binds (ps := ["self", "room"]) fun _ _ _ _ _ _ us hl => match us, hl with | [_, _], _ => rfl
  have b_Store_init := F_Store_init.binds (ps := ["self", "many"]) fun _ _ _ _ _ _ us hl => match us, hl with | [_, _], _ => rfl
  have b_Ways_init := F_Ways_init.binds (ps := ["self", "many", "toll"]) fun _ _ _ _ _ _ us hl => match us, hl with | [_, _, _], _ => rfl
  have b_Shelf_init := F_Shelf_init.binds (ps := ["self", "things"]) fun _ _ _ _ _ _ us hl => match us, hl with | [_, _], _ => rfl
  have b_Line_init := F_Line_init.binds (ps := ["self", "many"]) fun _ _ _ _ _ _ us hl => match us, hl with | [_, _], _ => rfl
  have b_Hire_init := F_Hire_init.binds (ps := ["self", "whole"]) fun _ _ _ _ _ _ us hl => match us, hl with | [_, _], _ => rfl
  have b_law_way := F_law_way.binds (ps := ["_law_script", "_law_game_here", "_law_straying"]) fun _ _ _ _ _ _ us hl => match us, hl with | [_, _, _], _ => rfl
  have b_law_strayed := F_law_strayed.binds (ps := ["_law_game_here", "_law_before", "_law_wish", "_law_number"]) fun _ _ _ _ _ _ us hl => match us, hl with | [_, _, _, _], _ => rfl
  have b_law_after := F_law_after.binds (ps := ["_law_game_here", "_law_before", "_law_wish"]) fun _ _ _ _ _ _ us hl => match us, hl with | [_, _, _], _ => rfl
  have b_law_put_out := F_law_put_out.binds (ps := ["_law_before", "_law_wish", "_law_game_here"]) fun _ _ _ _ _ _ us hl => match us, hl with | [_, _, _], _ => rfl
  have b_law_orders := F_law_orders.binds (ps := ["_law_things_here"]) fun _ _ _ _ _ _ us hl => match us, hl with | [_], _ => rfl
  have b_law_mixed := F_law_mixed.binds (ps := ["_law_cell_here", "_law_k"]) fun _ _ _ _ _ _ us hl => match us, hl with | [_, _], _ => rfl
  have b_law_cell := F_law_cell.binds (ps := ["_law_script", "_law_k"]) fun _ _ _ _ _ _ us hl => match us, hl with | [_, _], _ => rfl
  have b_law_game := F_law_game.binds (ps := ["_law_script", "_law_most"]) fun _ _ _ _ _ _ us hl => match us, hl with | [_, _], _ => rfl
  have b_law_sizes := F_law_sizes.binds (ps := ["_law_head", "_law_cells"]) fun _ _ _ _ _ _ us hl => match us, hl with | [_, _], _ => rfl
  have b_law_sum := F_law_sum.binds (ps := ["_law_cell_here", "_law_k"]) fun _ _ _ _ _ _ us hl => match us, hl with | [_, _], _ => rfl
  have b_law_pages := F_law_pages.binds (ps := ["_law_head", "_law_cells"]) fun _ _ _ _ _ _ us hl => match us, hl with | [_, _], _ => rfl
  have b_law_names := F_law_names.binds (ps := ["_law_number", "_law_many"]) fun _ _ _ _ _ _ us hl => match us, hl with | [_, _], _ => rfl
  have b_law_charged := F_law_charged.binds (ps := ["_law_head", "_law_cells"]) fun _ _ _ _ _ _ us hl => match us, hl with | [_, _], _ => rfl
  have b_law_things := F_law_things.binds (ps := ["_law_head", "_law_cells"]) fun _ _ _ _ _ _ us hl => match us, hl with | [_, _], _ => rfl
  have b_law_places := F_law_places.binds (ps := ["_law_head", "_law_cells"]) fun _ _ _ _ _ _ us hl => match us, hl with | [_, _], _ => rfl
  have b_law_hires := F_law_hires.binds (ps := ["_law_head", "_law_cells"]) fun _ _ _ _ _ _ us hl => match us, hl with | [_, _], _ => rfl
  have T : Txt K mg ⟨fa, _, f_law_same, _, f_law_whole, _, f_law_all_same, _, f_law_due, _, f_law_price, _, f_law_put, _, f_law_turned, _, f_way_price, _, f_Ways_price, _, f_Store_price, _, f_Shelf_price, _, f_turned_pairs, _, f_overtakers, _, f_Line_price, _, f_ways_between, _, f_Hire_price, _, f_Bags_price, _, f_filled, _, f_opened, _, f_law_world, _, f_Bags_init, _, f_Store_init, _, f_Ways_init, _, f_Shelf_init, _, f_Line_init, _, f_Hire_init, _, f_law_way, _, f_law_strayed, _, f_law_after, _, f_law_put_out, _, f_law_orders, _, f_law_mixed, _, f_law_cell, _, f_law_game, _, f_law_sizes, _, f_law_sum, _, f_law_pages, _, f_law_names, _, f_law_charged, _, f_law_things, _, f_law_places, _, f_law_hires, _, c_Bags, c_Hire, c_Line, c_Shelf, c_Store, c_Ways, _⟩ := ⟨F_law, b_law, PySem.W.mg_of X G a_law, F_law_same, b_law_same, PySem.W.mg_of X G a_law_same, F_law_whole, b_law_whole, PySem.W.mg_of X G a_law_whole, F_law_all_same, b_law_all_same, PySem.W.mg_of X G a_law_all_same, F_law_due, b_law_due, PySem.W.mg_of X G a_law_due, F_law_price, b_law_price, PySem.W.mg_of X G a_law_price, F_law_put, b_law_put, PySem.W.mg_of X G a_law_put, F_law_turned, b_law_turned, PySem.W.mg_of X G a_law_turned, F_way_price, b_way_price, PySem.W.mg_of X G a_way_price, F_Ways_price, b_Ways_price, F_Store_price, b_Store_price, F_Shelf_price, b_Shelf_price, F_turned_pairs, b_turned_pairs, PySem.W.mg_of X G a_turned_pairs, F_overtakers, b_overtakers, PySem.W.mg_of X G a_overtakers, F_Line_price, b_Line_price, F_ways_between, b_ways_between, PySem.W.mg_of X G a_ways_between, F_Hire_price, b_Hire_price, F_Bags_price, b_Bags_price, F_filled, b_filled, PySem.W.mg_of X G a_filled, F_opened, b_opened, PySem.W.mg_of X G a_opened, F_law_world, b_law_world, PySem.W.mg_of X G a_law_world, F_Bags_init, b_Bags_init, F_Store_init, b_Store_init, F_Ways_init, b_Ways_init, F_Shelf_init, b_Shelf_init, F_Line_init, b_Line_init, F_Hire_init, b_Hire_init, F_law_way, b_law_way, PySem.W.mg_of X G a_law_way, F_law_strayed, b_law_strayed, PySem.W.mg_of X G a_law_strayed, F_law_after, b_law_after, PySem.W.mg_of X G a_law_after, F_law_put_out, b_law_put_out, PySem.W.mg_of X G a_law_put_out, F_law_orders, b_law_orders, PySem.W.mg_of X G a_law_orders, F_law_mixed, b_law_mixed, PySem.W.mg_of X G a_law_mixed, F_law_cell, b_law_cell, PySem.W.mg_of X G a_law_cell, F_law_game, b_law_game, PySem.W.mg_of X G a_law_game, F_law_sizes, b_law_sizes, PySem.W.mg_of X G a_law_sizes, F_law_sum, b_law_sum, PySem.W.mg_of X G a_law_sum, F_law_pages, b_law_pages, PySem.W.mg_of X G a_law_pages, F_law_names, b_law_names, PySem.W.mg_of X G a_law_names, F_law_charged, b_law_charged, PySem.W.mg_of X G a_law_charged, F_law_things, b_law_things, PySem.W.mg_of X G a_law_things, F_law_places, b_law_places, PySem.W.mg_of X G a_law_places, F_law_hires, b_law_hires, PySem.W.mg_of X G a_law_hires, PySem.W.mg_of X G aC_Bags, ⟨cg_Bags, ch_Bags, co_Bags, cs_Bags⟩, ⟨mm_Bags, mi_Bags, mf_Bags, mp_Bags⟩, na_Bags_room, ⟨ea_Bags_price, ef_Bags_price, p_Bags_price⟩, PySem.W.mg_of X G aC_Hire, ⟨cg_Hire, ch_Hire, co_Hire, cs_Hire⟩, ⟨mm_Hire, mi_Hire, mf_Hire, mp_Hire⟩, na_Hire_whole, ⟨ea_Hire_price, ef_Hire_price, p_Hire_price⟩, PySem.W.mg_of X G aC_Line, ⟨cg_Line, ch_Line, co_Line, cs_Line⟩, ⟨mm_Line, mi_Line, mf_Line, mp_Line⟩, na_Line_many, ⟨ea_Line_price, ef_Line_price, p_Line_price⟩, PySem.W.mg_of X G aC_Shelf, ⟨cg_Shelf, ch_Shelf, co_Shelf, cs_Shelf⟩, ⟨mm_Shelf, mi_Shelf, mf_Shelf, mp_Shelf⟩, na_Shelf_things, ⟨ea_Shelf_price, ef_Shelf_price, p_Shelf_price⟩, PySem.W.mg_of X G aC_Store, ⟨cg_Store, ch_Store, co_Store, cs_Store⟩, ⟨mm_Store, mi_Store, mf_Store, mp_Store⟩, na_Store_many, ⟨ea_Store_price, ef_Store_price, p_Store_price⟩, PySem.W.mg_of X G aC_Ways, ⟨cg_Ways, ch_Ways, co_Ways, cs_Ways⟩, ⟨mm_Ways, mi_Ways, mf_Ways, mp_Ways⟩, na_Ways_many, na_Ways_toll, ⟨ea_Ways_price, ef_Ways_price, p_Ways_price⟩, PySem.W.mg_none_of X G z_abs, PySem.W.mg_none_of X G z_bool, PySem.W.mg_none_of X G z_int, PySem.W.mg_none_of X G z_isinstance, PySem.W.mg_none_of X G z_len, PySem.W.mg_none_of X G z_list, PySem.W.mg_none_of X G z_max, PySem.W.mg_none_of X G z_min, PySem.W.mg_none_of X G z_range, PySem.W.mg_none_of X G z_sorted, PySem.W.mg_none_of X G z_str, PySem.W.mg_none_of X G z_sum, PySem.W.mg_none_of X G z_tuple, PySem.W.mg_none_of X G z_zip, PySem.W.mg_of X G zk_MOST_BAGS⟩
  exact ⟨_, fun s v => .of_eq rfl, fun base _ _ => ok_law T⟩
theorem walk {l : PySem.W.OpenLaw} {q : Program} {loose : List Str} {XP : (Str → Option Value) → Heap → Prop} {YP : World → Heap → Prop} {d : DefRec} {K : Params → PySem.W.Frag} (hn : l.most = some 63) (hdf : d.params.defaults = [])
    (hY : ∀ (w : World) (h : Heap), YP w h → (K w.params).In h)
    (F : ∀ (w : World) (mg : Str → Option Value) (fa : Addr) (h : Heap), (K w.params).In h → h.Ns mainGlobals mg → mg d.name = some (.ref fa) →
      ∃ fd : FuncData, (∀ (s : Shared) (u : Value), BindsTo s fd ⟨[u], []⟩ [("_law_script", u)]) ∧ ∀ base : Heap, (K w.params).In base → base.Ns mainGlobals mg → FnOk l.prog w (K w.params) mg base (CXU l.prog w) 13 fa fd ["_law_script"] (sp_law (K w.params))) :
    PySem.W.WalkO q loose XP YP l.row.toRowW d [] (fun f vs => PySem.call f vs) :=
  L2.walk_ofB (n := 63) (k := 13) (x := "_law_script") (CX := fun w => CXU l.prog w) (sp := fun w => sp_law (K w.params)) hn (by decide) hdf ⟨rfl, by decide, by decide, rfl⟩ hY F (fun _ _ a ns hl hb _ hS => ⟨a, ns, rfl, hS, hl, hb, fun _ => rfl⟩) noneU
end Q
namespace PySem.W.Fast
def tw2278909308369558954 : Unit := ()
def tw14505818004374796257 : Unit := ()
def tw10694746773446773083 : Unit := ()
def tw2762868487941620449 : Unit := ()
def tw3162037757292068501 : Unit := ()
def tw18353626139615805834 : Unit := ()
def tw8536951487934739699 : Unit := ()
def tw7582337775551992291 : Unit := ()
def tw12115271813383401394 : Unit := ()
def tw13734299118849148463 : Unit := ()
def tw9041773202477610735 : Unit := ()
def tw9871276088084797110 : Unit := ()
def tw16705918272525050924 : Unit := ()
def tw17417945653538412950 : Unit := ()
def tw7185594252962130022 : Unit := ()
end PySem.W.Fast
open PySem PySem.W PyProof.Rows
set_option maxRecDepth 100000 in
set_option maxHeartbeats 0 in
theorem PySem.Challenge.cw_lateknow_k61_way_price_holds : PySem.Challenge.rw_lateknow_k61_way_price.Holds := by
  w_on; o_law; k_head; (case hw => w_witness2)
  k_fill
  first | refine Q.walk (l := PySem.Challenge.rw_lateknow_k61_way_price) rfl rfl (fun w h Y => PySem.W.kIn_of Y) ?F | refine Q.walk (l := PySem.Challenge.rw_lateknow_k61_way_price) rfl rfl (fun w h Y => PySem.W.km_in_of Y) ?F
  case F =>
    intro w mg fa h KX G hmg
    refine' Q.all_mk KX G hmg ?aC_Bags ?aC_Hire ?aC_Line ?aC_Shelf ?aC_Store ?aC_Ways ?a_law ?l_law ?k_law ?p_law ?a_law_same ?l_law_same ?k_law_same ?p_law_same ?a_law_whole ?l_law_whole ?k_law_whole ?p_law_whole ?a_law_all_same ?l_law_all_same ?k_law_all_same ?p_law_all_same ?a_law_due ?l_law_due ?k_law_due ?p_law_due ?a_law_price ?l_law_price ?k_law_price ?p_law_price ?a_law_put ?l_law_put ?k_law_put ?p_law_put ?a_law_turned ?l_law_turned ?k_law_turned ?p_law_turned ?a_way_price ?l_way_price ?k_way_price ?p_way_price ?a_Ways_price ?l_Ways_price ?k_Ways_price ?p_Ways_price ?a_Store_price ?l_Store_price ?k_Store_price ?p_Store_price ?a_Shelf_price ?l_Shelf_price ?k_Shelf_price ?p_Shelf_price ?a_turned_pairs ?l_turned_pairs ?k_turned_pairs ?p_turned_pairs ?a_overtakers ?l_overtakers ?k_overtakers ?p_overtakers ?a_Line_price ?l_Line_price ?k_Line_price ?p_Line_price ?a_ways_between ?l_ways_between ?k_ways_between ?p_ways_between ?a_Hire_price ?l_Hire_price ?k_Hire_price ?p_Hire_price ?a_Bags_price ?l_Bags_price ?k_Bags_price ?p_Bags_price ?a_filled ?l_filled ?k_filled ?p_filled ?a_opened ?l_opened ?k_opened ?p_opened ?a_law_world ?l_law_world ?k_law_world ?p_law_world ?a_Bags_init ?l_Bags_init ?k_Bags_init ?p_Bags_init ?a_Store_init ?l_Store_init ?k_Store_init ?p_Store_init ?a_Ways_init ?l_Ways_init ?k_Ways_init ?p_Ways_init ?a_Shelf_init ?l_Shelf_init ?k_Shelf_init ?p_Shelf_init ?a_Line_init ?l_Line_init ?k_Line_init ?p_Line_init ?a_Hire_init ?l_Hire_init ?k_Hire_init ?p_Hire_init ?a_law_way ?l_law_way ?k_law_way ?p_law_way ?a_law_strayed ?l_law_strayed ?k_law_strayed ?p_law_strayed ?a_law_after ?l_law_after ?k_law_after ?p_law_after ?a_law_put_out ?l_law_put_out ?k_law_put_out ?p_law_put_out ?a_law_orders ?l_law_orders ?k_law_orders ?p_law_orders ?a_law_mixed ?l_law_mixed ?k_law_mixed ?p_law_mixed ?a_law_cell ?l_law_cell ?k_law_cell ?p_law_cell ?a_law_game ?l_law_game ?k_law_game ?p_law_game ?a_law_sizes ?l_law_sizes ?k_law_sizes ?p_law_sizes ?a_law_sum ?l_law_sum ?k_law_sum ?p_law_sum ?a_law_pages ?l_law_pages ?k_law_pages ?p_law_pages ?a_law_names ?l_law_names ?k_law_names ?p_law_names ?a_law_charged ?l_law_charged ?k_law_charged ?p_law_charged ?a_law_things ?l_law_things ?k_law_things ?p_law_things ?a_law_places ?l_law_places ?k_law_places ?p_law_places ?a_law_hires ?l_law_hires ?k_law_hires ?p_law_hires ?cg_Bags ?ch_Bags ?co_Bags ?cs_Bags ?mm_Bags ?mi_Bags ?mf_Bags ?mp_Bags ?na_Bags_room ?ea_Bags_price ?ef_Bags_price ?cg_Hire ?ch_Hire ?co_Hire ?cs_Hire ?mm_Hire ?mi_Hire ?mf_Hire ?mp_Hire ?na_Hire_whole ?ea_Hire_price ?ef_Hire_price ?cg_Line ?ch_Line ?co_Line ?cs_Line ?mm_Line ?mi_Line ?mf_Line ?mp_Line ?na_Line_many ?ea_Line_price ?ef_Line_price ?cg_Shelf ?ch_Shelf ?co_Shelf ?cs_Shelf ?mm_Shelf ?mi_Shelf ?mf_Shelf ?mp_Shelf ?na_Shelf_things ?ea_Shelf_price ?ef_Shelf_price ?cg_Store ?ch_Store ?co_Store ?cs_Store ?mm_Store ?mi_Store ?mf_Store ?mp_Store ?na_Store_many ?ea_Store_price ?ef_Store_price ?cg_Ways ?ch_Ways ?co_Ways ?cs_Ways ?mm_Ways ?mi_Ways ?mf_Ways ?mp_Ways ?na_Ways_many ?na_Ways_toll ?ea_Ways_price ?ef_Ways_price ?z_abs ?z_bool ?z_int ?z_isinstance ?z_len ?z_list ?z_max ?z_min ?z_range ?z_sorted ?z_str ?z_sum ?z_tuple ?z_zip ?zk_MOST_BAGS
    (case aC_Bags => k_is)
    (case aC_Hire => k_is)
    (case aC_Line => k_is)
    (case aC_Shelf => k_is)
    (case aC_Store => k_is)
    (case aC_Ways => k_is)
    (case a_law => k_is)
    (case l_law => k_is)
    (case k_law => k_is)
    (case p_law => k_is)
    (case a_law_same => k_is)
    (case l_law_same => k_is)
    (case k_law_same => k_is)
    (case p_law_same => k_is)
    (case a_law_whole => k_is)
    (case l_law_whole => k_is)
    (case k_law_whole => k_is)
    (case p_law_whole => k_is)
    (case a_law_all_same => k_is)
    (case l_law_all_same => k_is)
    (case k_law_all_same => k_is)
    (case p_law_all_same => k_is)
    (case a_law_due => k_is)
    (case l_law_due => k_is)
    (case k_law_due => k_is)
    (case p_law_due => k_is)
    (case a_law_price => k_is)
    (case l_law_price => k_is)
    (case k_law_price => k_is)
    (case p_law_price => k_is)
    (case a_law_put => k_is)
    (case l_law_put => k_is)
    (case k_law_put => k_is)
    (case p_law_put => k_is)
    (case a_law_turned => k_is)
    (case l_law_turned => k_is)
    (case k_law_turned => k_is)
    (case p_law_turned => k_is)
    (case a_way_price => k_is)
    (case l_way_price => k_is)
    (case k_way_price => k_is)
    (case p_way_price => k_is)
    (case a_Ways_price => k_is)
    (case l_Ways_price => k_is)
    (case k_Ways_price => k_is)
    (case p_Ways_price => k_is)
    (case a_Store_price => k_is)
    (case l_Store_price => k_is)
    (case k_Store_price => k_is)
    (case p_Store_price => k_is)
    (case a_Shelf_price => k_is)
    (case l_Shelf_price => k_is)
    (case k_Shelf_price => k_is)
    (case p_Shelf_price => k_is)
    (case a_turned_pairs => k_is)
    (case l_turned_pairs => k_is)
    (case k_turned_pairs => k_is)
    (case p_turned_pairs => k_is)
    (case a_overtakers => k_is)
    (case l_overtakers => k_is)
    (case k_overtakers => k_is)
    (case p_overtakers => k_is)
    (case a_Line_price => k_is)
    (case l_Line_price => k_is)
    (case k_Line_price => k_is)
    (case p_Line_price => k_is)
    (case a_ways_between => k_is)
    (case l_ways_between => k_is)
    (case k_ways_between => k_is)
    (case p_ways_between => k_is)
    (case a_Hire_price => k_is)
    (case l_Hire_price => k_is)
    (case k_Hire_price => k_is)
    (case p_Hire_price => k_is)
    (case a_Bags_price => k_is)
    (case l_Bags_price => k_is)
    (case k_Bags_price => k_is)
    (case p_Bags_price => k_is)
    (case a_filled => k_is)
    (case l_filled => k_is)
    (case k_filled => k_is)
    (case p_filled => k_is)
    (case a_opened => k_is)
    (case l_opened => k_is)
    (case k_opened => k_is)
    (case p_opened => k_is)
    (case a_law_world => k_is)
    (case l_law_world => k_is)
    (case k_law_world => k_is)
    (case p_law_world => k_is)
    (case a_Bags_init => k_is)
    (case l_Bags_init => k_is)
    (case k_Bags_init => k_is)
    (case p_Bags_init => k_is)
    (case a_Store_init => k_is)
    (case l_Store_init => k_is)
    (case k_Store_init => k_is)
    (case p_Store_init => k_is)
    (case a_Ways_init => k_is)
    (case l_Ways_init => k_is)
    (case k_Ways_init => k_is)
    (case p_Ways_init => k_is)
    (case a_Shelf_init => k_is)
    (case l_Shelf_init => k_is)
    (case k_Shelf_init => k_is)
    (case p_Shelf_init => k_is)
    (case a_Line_init => k_is)
    (case l_Line_init => k_is)
    (case k_Line_init => k_is)
    (case p_Line_init => k_is)
    (case a_Hire_init => k_is)
    (case l_Hire_init => k_is)
    (case k_Hire_init => k_is)
    (case p_Hire_init => k_is)
    (case a_law_way => k_is)
    (case l_law_way => k_is)
    (case k_law_way => k_is)
    (case p_law_way => k_is)
    (case a_law_strayed => k_is)
    (case l_law_strayed => k_is)
    (case k_law_strayed => k_is)
    (case p_law_strayed => k_is)
    (case a_law_after => k_is)
    (case l_law_after => k_is)
    (case k_law_after => k_is)
    (case p_law_after => k_is)
    (case a_law_put_out => k_is)
    (case l_law_put_out => k_is)
    (case k_law_put_out => k_is)
    (case p_law_put_out => k_is)
    (case a_law_orders => k_is)
    (case l_law_orders => k_is)
    (case k_law_orders => k_is)
    (case p_law_orders => k_is)
    (case a_law_mixed => k_is)
    (case l_law_mixed => k_is)
    (case k_law_mixed => k_is)
    (case p_law_mixed => k_is)
    (case a_law_cell => k_is)
    (case l_law_cell => k_is)
    (case k_law_cell => k_is)
    (case p_law_cell => k_is)
    (case a_law_game => k_is)
    (case l_law_game => k_is)
    (case k_law_game => k_is)
    (case p_law_game => k_is)
    (case a_law_sizes => k_is)
    (case l_law_sizes => k_is)
    (case k_law_sizes => k_is)
    (case p_law_sizes => k_is)
    (case a_law_sum => k_is)
    (case l_law_sum => k_is)
    (case k_law_sum => k_is)
    (case p_law_sum => k_is)
    (case a_law_pages => k_is)
    (case l_law_pages => k_is)
    (case k_law_pages => k_is)
    (case p_law_pages => k_is)
    (case a_law_names => k_is)
    (case l_law_names => k_is)
    (case k_law_names => k_is)
    (case p_law_names => k_is)
    (case a_law_charged => k_is)
    (case l_law_charged => k_is)
    (case k_law_charged => k_is)
    (case p_law_charged => k_is)
    (case a_law_things => k_is)
    (case l_law_things => k_is)
    (case k_law_things => k_is)
    (case p_law_things => k_is)
    (case a_law_places => k_is)
    (case l_law_places => k_is)
    (case k_law_places => k_is)
    (case p_law_places => k_is)
    (case a_law_hires => k_is)
    (case l_law_hires => k_is)
    (case k_law_hires => k_is)
    (case p_law_hires => k_is)
    (case cg_Bags => k_is)
    (case ch_Bags => k_is)
    (case co_Bags => k_is)
    (case cs_Bags => k_is)
    (case mm_Bags => k_is)
    (case mi_Bags => k_is)
    (case mf_Bags => k_is)
    (case mp_Bags => k_is)
    (case na_Bags_room => k_is)
    (case ea_Bags_price => k_is)
    (case ef_Bags_price => k_is)
    (case cg_Hire => k_is)
    (case ch_Hire => k_is)
    (case co_Hire => k_is)
    (case cs_Hire => k_is)
    (case mm_Hire => k_is)
    (case mi_Hire => k_is)
    (case mf_Hire => k_is)
    (case mp_Hire => k_is)
    (case na_Hire_whole => k_is)
    (case ea_Hire_price => k_is)
    (case ef_Hire_price => k_is)
    (case cg_Line => k_is)
    (case ch_Line => k_is)
    (case co_Line => k_is)
    (case cs_Line => k_is)
    (case mm_Line => k_is)
    (case mi_Line => k_is)
    (case mf_Line => k_is)
    (case mp_Line => k_is)
    (case na_Line_many => k_is)
    (case ea_Line_price => k_is)
    (case ef_Line_price => k_is)
    (case cg_Shelf => k_is)
    (case ch_Shelf => k_is)
    (case co_Shelf => k_is)
    (case cs_Shelf => k_is)
    (case mm_Shelf => k_is)
    (case mi_Shelf => k_is)
    (case mf_Shelf => k_is)
    (case mp_Shelf => k_is)
    (case na_Shelf_things => k_is)
    (case ea_Shelf_price => k_is)
    (case ef_Shelf_price => k_is)
    (case cg_Store => k_is)
    (case ch_Store => k_is)
    (case co_Store => k_is)
    (case cs_Store => k_is)
    (case mm_Store => k_is)
    (case mi_Store => k_is)
    (case mf_Store => k_is)
    (case mp_Store => k_is)
    (case na_Store_many => k_is)
    (case ea_Store_price => k_is)
    (case ef_Store_price => k_is)
    (case cg_Ways => k_is)
    (case ch_Ways => k_is)
    (case co_Ways => k_is)
    (case cs_Ways => k_is)
    (case mm_Ways => k_is)
    (case mi_Ways => k_is)
    (case mf_Ways => k_is)
    (case mp_Ways => k_is)
    (case na_Ways_many => k_is)
    (case na_Ways_toll => k_is)
    (case ea_Ways_price => k_is)
    (case ef_Ways_price => k_is)
    (case z_abs => k_is)
    (case z_bool => k_is)
    (case z_int => k_is)
    (case z_isinstance => k_is)
    (case z_len => k_is)
    (case z_list => k_is)
    (case z_max => k_is)
    (case z_min => k_is)
    (case z_range => k_is)
    (case z_sorted => k_is)
    (case z_str => k_is)
    (case z_sum => k_is)
    (case z_tuple => k_is)
    (case z_zip => k_is)
    (case zk_MOST_BAGS => k_is)
