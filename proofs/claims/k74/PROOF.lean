import PyProof.Rows.All
import Wide.All
import OpenK.AllK
import Wide.FinOn
import Lean
import PyProof.EqAt
import PyProof.EqKinds
import PyProof.TupleCall
import PyProof.ExcClass3
import PyProof.InstStoreFacts
import PyProof.RulesAs
import PyProof.NsDelKeeps
import PyProof.ExcArgsOwn
import PyProof.ExcAttrAll.ValueError
import PyProof.ExcBaseAll.ValueError
import PySem.Challenge.RW_lateknow_k74_enemy_of_changer
set_option Elab.async false
set_option linter.all false
set_option maxRecDepth 100000
set_option maxHeartbeats 4000000
set_option Elab.async false
set_option linter.all false
set_option maxRecDepth 100000
namespace L2
open PySem PySem.Spec PyProof.Rows
abbrev Key := Sum Int Str
def keyIs : Key → Value → Bool
  | .inl k, v => Value.isInt k v
  | .inr x, v => Value.isStrOf x v
def keyH (w : World) : Key → Int
  | .inl k => hashInt k
  | .inr x => hashStr w x
theorem keyIs_shape : ∀ {k : Key} {v : Value}, keyIs k v = true → (∃ i t, k = Sum.inl i ∧ v = Value.int i t) ∨ (∃ x t, k = Sum.inr x ∧ v = Value.str x t)
  | .inl i, v, h => by
    obtain ⟨t, e⟩ := Value.isInt_shape (k := i) (v := v) h
    exact .inl ⟨i, t, rfl, e⟩
  | .inr x, v, h => by
    obtain ⟨t, e⟩ := Value.isStrOf_shape (x := x) (v := v) h
    exact .inr ⟨x, t, rfl, e⟩
theorem keyIs_int (i : Int) (t : Tok) : keyIs (.inl i) (.int i t) = true := by simp [keyIs, Value.isInt]
theorem keyIs_str (x : Str) (t : Tok) : keyIs (.inr x) (.str x t) = true := by simp [keyIs, Value.isStrOf]
theorem key_ll (a b : Int) : decide ((Sum.inl a : Key) = Sum.inl b) = (a == b) := by
  by_cases e : a = b
  · subst e; simp
  · have h : ¬ (Sum.inl a : Key) = Sum.inl b := fun q => e (Sum.inl.inj q)
    rw [decide_eq_false h]
    exact (beq_eq_false_iff_ne.mpr e).symm
theorem key_rr (a b : Str) : decide ((Sum.inr a : Key) = Sum.inr b) = decide (a = b) := by
  by_cases e : a = b
  · subst e; simp
  · have h : ¬ (Sum.inr a : Key) = Sum.inr b := fun q => e (Sum.inr.inj q)
    rw [decide_eq_false h, decide_eq_false e]
theorem key_lr (a : Int) (b : Str) : decide ((Sum.inl a : Key) = Sum.inr b) = false := decide_eq_false (fun q => nomatch q)
theorem key_rl (a : Str) (b : Int) : decide ((Sum.inr a : Key) = Sum.inl b) = false := decide_eq_false (fun q => nomatch q)
def mixKind (prog : Program) (w : World) : PySem.KeyKind prog w Key where
  is := keyIs
  hash := keyH w
  inj := fun v a b ha hb => by
    rcases keyIs_shape ha with ⟨i, t, rfl, rfl⟩ | ⟨x, t, rfl, rfl⟩
    · rcases keyIs_shape hb with ⟨j, u, rfl, e⟩ | ⟨y, u, rfl, e⟩
      · injection e with e1 _; rw [e1]
      · exact nomatch e
    · rcases keyIs_shape hb with ⟨j, u, rfl, e⟩ | ⟨y, u, rfl, e⟩
      · exact nomatch e
      · injection e with e1 _; rw [e1]
  byValue := fun k v h => by
    rcases keyIs_shape h with ⟨i, t, rfl, rfl⟩ | ⟨x, t, rfl, rfl⟩ <;> rfl
  pyHash := fun hv h => by
    rcases keyIs_shape hv with ⟨i, t, rfl, rfl⟩ | ⟨x, t, rfl, rfl⟩
    · exact wpAny_pyHash_int h
    · exact wpAny_pyHash_str h
  eqBool := fun hu hv h => by
    rcases keyIs_shape hu with ⟨i, t, rfl, rfl⟩ | ⟨x, t, rfl, rfl⟩
    · rcases keyIs_shape hv with ⟨j, u, rfl, rfl⟩ | ⟨y, u, rfl, rfl⟩
      · rw [key_ll] at h; exact wpAny_eqBool_int h
      · rw [key_lr] at h; exact SeqAt.EqAt.int_str i t y u _ _ _ _ h
    · rcases keyIs_shape hv with ⟨j, u, rfl, rfl⟩ | ⟨y, u, rfl, rfl⟩
      · rw [key_rl] at h; exact SeqAt.EqAt.str_int x t j u _ _ _ _ h
      · rw [key_rr] at h; exact wpAny_eqBool_str h
  «strs» := fun k x t v h => by
    rcases keyIs_shape h with ⟨i, u, rfl, e⟩ | ⟨y, u, rfl, e⟩
    · exact nomatch e
    · injection e with e1 _
      subst e1
      cases v <;> rfl
theorem mixKind_int (prog : Program) (w : World) (i : Int) (t : Tok) : (mixKind prog w).is (.inl i) (.int i t) = true := keyIs_int i t
theorem mixKind_str (prog : Program) (w : World) (x : Str) (t : Tok) : (mixKind prog w).is (.inr x) (.str x t) = true := keyIs_str x t
inductive V where
  | non | bl (b : Bool) | int (i : Int) | str (x : Str) | byt (b : Array UInt8) | flt (b : UInt64) | ref (a : Addr) | ty (n : String)
  deriving DecidableEq
def RelV : V → Value → Prop
  | .non, u => u = Value.none
  | .bl b, u => u = Value.bool b
  | .int i, u => ∃ t, u = Value.int i t
  | .str x, u => ∃ t, u = Value.str x t
  | .byt b, u => ∃ t, u = Value.bytes b t
  | .flt b, u => ∃ t, u = Value.float b t
  | .ref a, u => u = Value.ref a
  | .ty n, u => u = Value.type n
abbrev Vals : List V → List Value → Prop := Paired RelV
theorem Vals.length {xs : List V} {us : List Value} (r : Vals xs us) : xs.length = us.length := Paired.length r
theorem Vals.get : ∀ {xs : List V} {us : List Value} {i : Nat} {x : V}, Vals xs us → xs[i]? = some x → ∃ u, us[i]? = some u ∧ RelV x u
  | _, _, _, _, .nil, e => by simp at e
  | _, _, 0, _, .cons r _, e => by simp at e; subst e; exact ⟨_, rfl, r⟩
  | _, _, i + 1, x, .cons _ t, e => by
    obtain ⟨u, h1, h2⟩ := Vals.get (i := i) (x := x) t (by simpa using e)
    exact ⟨u, by simpa using h1, h2⟩
theorem Vals.set {x : V} {u : Value} (r : RelV x u) : ∀ {xs : List V} {us : List Value} (i : Nat), Vals xs us → Vals (xs.set i x) (us.set i u)
  | _, _, _, .nil => .nil
  | _, _, 0, .cons _ t => .cons r t
  | _, _, i + 1, .cons q t => .cons q (Vals.set r i t)
theorem Vals.append : ∀ {xs ys : List V} {us ws : List Value}, Vals xs us → Vals ys ws → Vals (xs ++ ys) (us ++ ws)
  | _, _, _, _, .nil, s => s
  | _, _, _, _, .cons r t, s => .cons r (Vals.append t s)
theorem Vals.take : ∀ {xs : List V} {us : List Value} (n : Nat), Vals xs us → Vals (xs.take n) (us.take n)
  | _, _, 0, _ => .nil
  | _, _, _ + 1, .nil => .nil
  | _, _, n + 1, .cons r t => .cons r (Vals.take n t)
theorem Vals.drop : ∀ {xs : List V} {us : List Value} (n : Nat), Vals xs us → Vals (xs.drop n) (us.drop n)
  | _, _, 0, r => r
  | _, _, _ + 1, .nil => .nil
  | _, _, n + 1, .cons _ t => Vals.drop n t
def RelO : Option V → Option Value → Prop
  | some v, some u => RelV v u
  | none, none => True
  | _, _ => False
def KV {κ : Type} : List (κ × V) → List (κ × Value) → Prop := Paired fun (p : κ × V) (q : κ × Value) => p.1 = q.1 ∧ RelV p.2 q.2
def kV : Key → V
  | .inl i => .int i
  | .inr x => .str x
def TupN (h : Heap) (a : Addr) (xs : Array Value) : Prop := IsTup h a xs ∧ ∃ o, h.get? a = some o ∧ o.dict = none
theorem TupN.new (h : Heap) (xs : Array Value) : TupN (h.push { cls := .type "tuple", data := .seq xs }) h.objs.size xs := ⟨IsTup.new _ _, _, Heap.get?_push_size _ rfl, rfl⟩
inductive HO where
    | lst (xs : List V)
    | tup (xs : List V)
    | dK (kvs : List (Key × V)) | dT (kvs : List (List Key × V))
    | set (S : Int → Bool) (n : Nat)
    | ins (C dx : Addr) (fs : List (Str × V))
    | own (x : Addr)
    | xd (fs : List (Str × V))
    | met (f x : Addr)
    | rng (lo hi : Int)
    | frz (o : Obj) (u : HO)
    | tbl (ps : Array Value)
    | ext (φ : Heap → Prop)
abbrev Hp := Addr → Option HO
def upd (H : Hp) (a : Addr) (o : HO) : Hp := fun b => if b = a then some o else H b
theorem upd_same {H : Hp} {a : Addr} {o : HO} : upd H a o a = some o := by unfold upd; rw [if_pos rfl]
theorem upd_ne {H : Hp} {a b : Addr} {o : HO} (h : b ≠ a) : upd H a o b = H b := by unfold upd; rw [if_neg h]
theorem upd_upd {H : Hp} {a : Addr} {o u : HO} : upd (upd H a o) a u = upd H a u := by
  funext b; unfold upd; split <;> rfl
theorem ne_of {H : Hp} {a b : Addr} {o u : HO} (h : H a = some o) (h' : H b = some u) (d : o ≠ u) : a ≠ b := by
  intro e; subst e; rw [h] at h'; exact d (Option.some.inj h')
theorem ne_of_none {H : Hp} {a b : Addr} {o : HO} (h : H a = some o) (h' : H b = none) : a ≠ b := by
  intro e; subst e; rw [h] at h'; cases h'
section
variable (P : Program) (w : World)
def ObjOk (H : Hp) (h : Heap) (a : Addr) : HO → Prop
  | .lst xs => xs.length ≤ sizeLine ∧ ∃ (its : List Value) (n : Nat), Vals xs its ∧ h.get? a = some { cls := .type "list", data := .seq its.toArray n }
  | .tup xs => xs.length ≤ sizeLine ∧ ∃ its : List Value, Vals xs its ∧ TupN h a its.toArray
  | .dK kvs => kvs.length ≤ sizeLine ∧ (a == sysModules) = false ∧ ∃ vs, KV kvs vs ∧ h.DictOf (mixKind P w) a vs
  | .dT kvs => kvs.length ≤ sizeLine ∧ (a == sysModules) = false ∧ ∃ xs : List (List Key × Addr × Value),
      Paired (fun (p : List Key × V) (q : List Key × Addr × Value) => p.1 = q.1 ∧ H q.2.1 = some (.tup (p.1.map kV)) ∧ RelV p.2 q.2.2) kvs xs ∧
      ∃ o es ep, h.get? a = some o ∧ o.ExactDict ∧ o.data = .dict es ep ∧ es.toList = xs.map (entryOfKey (tupleKind (mixKind P w))) ∧ (xs.map (·.1)).Nodup
  | .set S n => h.SetOf (intKind P w) a S n
  | .ins C dx fs => H dx = some (.own a) ∧ fs.length ≤ 1000 ∧ dx ≠ a ∧ h.get? a = some (PySem.W.instObj C dx) ∧
      ∃ mA, h.Ns1 dx mA ∧ (∀ f, RelO (fs.lookup f) (mA f)) ∧ PySem.Within mA (fs.map (·.1))
  | .own _ => ∃ o, h.get? a = some o
  | .xd fs => ∃ mA, h.Ns1 a mA ∧ ∀ f, RelO (fs.lookup f) (mA f)
  | .rng lo hi => ∃ t u v, h.get? a = some { cls := .type "range", data := .fields #[.int lo t, .int hi u, .int 1 v] }
  | .frz o u => h.get? a = some o ∧ ObjOk H h a u
  | .tbl ps => h.get? a = some { cls := .none, data := .fields ps }
  | .met f x => h.get? a = some (PySem.W.methodObj (.ref f) (.ref x))
  | .ext φ => φ h ∧ (∃ o, h.get? a = some o) ∧ ∀ h1 h2 : Heap, φ h1 → (∀ o, h1.get? a = some o → h2.get? a = some o) → φ h2
def HOk (H : Hp) (h : Heap) : Prop := ∀ a o, H a = some o → ObjOk P w H h a o
end
section
variable {P : Program} {w : World} {H H' : Hp} {h h' : Heap} {a : Addr} {o : HO}
theorem ObjOk.lt (x : ObjOk P w H h a o) : a < h.objs.size := by
  cases o with
  | lst xs => obtain ⟨_, _, _, _, e⟩ := x; exact Heap.lt_size e
  | tup xs => obtain ⟨_, _, _, p⟩ := x; exact p.1.lt
  | dK kvs => obtain ⟨_, _, _, _, o, _, _, e, _⟩ := x; exact Heap.lt_size e
  | dT kvs => obtain ⟨_, _, _, _, o, _, _, e, _⟩ := x; exact Heap.lt_size e
  | set S n => obtain ⟨o, _, _, _, e, _⟩ := x; exact Heap.lt_size e
  | ins C dx fs => obtain ⟨_, _, _, e, _⟩ := x; exact Heap.lt_size e
  | own y => obtain ⟨_, e⟩ := x; exact Heap.lt_size e
  | xd fs => obtain ⟨_, ⟨_, _, _, e, _⟩, _⟩ := x; exact Heap.lt_size e
  | rng lo hi => obtain ⟨_, _, _, e⟩ := x; exact Heap.lt_size e
  | frz ob u => obtain ⟨e, _⟩ := x; exact Heap.lt_size e
  | tbl ps => exact Heap.lt_size (show h.get? a = some _ from x)
  | met f y => exact Heap.lt_size (show h.get? a = some _ from x)
  | ext φ => obtain ⟨_, ⟨_, e⟩, _⟩ := x; exact Heap.lt_size e
theorem Paired.mapP {α β : Type} {F G : α → β → Prop} : ∀ {l₁ : List α} {l₂ : List β}, Paired F l₁ l₂ → (∀ a b, F a b → G a b) → Paired G l₁ l₂
  | _, _, .nil, _ => .nil
  | _, _, .cons r t, f => .cons (f _ _ r) (Paired.mapP t f)
theorem ObjOk.stay (x : ObjOk P w H h a o) (k : ∀ b u, (b = a ∨ H b = some (.own a)) → h.get? b = some u → h'.get? b = some u)
    (ho : ∀ b, H b = some (.own a) → H' b = some (.own a)) (ht : ∀ b xs, H b = some (.tup xs) → H' b = some (.tup xs)) : ObjOk P w H' h' a o := by
  induction o with
  | lst xs => obtain ⟨z, its, n, r, e⟩ := x; exact ⟨z, its, n, r, k _ _ (.inl rfl) e⟩
  | tup xs => obtain ⟨z, its, r, ⟨ob, e, c⟩, od, f, d⟩ := x; exact ⟨z, its, r, ⟨ob, k _ _ (.inl rfl) e, c⟩, od, k _ _ (.inl rfl) f, d⟩
  | dK kvs => obtain ⟨z, y, vs, r, ob, es, ep, e, c⟩ := x; exact ⟨z, y, vs, r, ob, es, ep, k _ _ (.inl rfl) e, c⟩
  | dT kvs =>
    obtain ⟨z, y, xs, r, ob, es, ep, e, c⟩ := x
    exact ⟨z, y, xs, Paired.mapP r fun p q z => ⟨z.1, ht _ _ z.2.1, z.2.2⟩, ob, es, ep, k _ _ (.inl rfl) e, c⟩
  | set S n => obtain ⟨ob, es, ep, t, e, c⟩ := x; exact ⟨ob, es, ep, t, k _ _ (.inl rfl) e, c⟩
  | ins C dx fs =>
    obtain ⟨d, z, ne, e, mA, ⟨od, es, ep, e2, c⟩, r⟩ := x
    exact ⟨ho _ d, z, ne, k _ _ (.inl rfl) e, mA, ⟨od, es, ep, k _ _ (.inr d) e2, c⟩, r⟩
  | own y => obtain ⟨ob, e⟩ := x; exact ⟨ob, k _ _ (.inl rfl) e⟩
  | xd fs => obtain ⟨mA, ⟨od, es, ep, e, c⟩, r⟩ := x; exact ⟨mA, ⟨od, es, ep, k _ _ (.inl rfl) e, c⟩, r⟩
  | rng lo hi => obtain ⟨t, u, v, e⟩ := x; exact ⟨t, u, v, k _ _ (.inl rfl) e⟩
  | frz ob u ih => obtain ⟨e, q⟩ := x; exact ⟨k _ _ (.inl rfl) e, ih q⟩
  | tbl ps =>
    have e : h.get? a = some { cls := .none, data := .fields ps } := x
    show h'.get? a = some { cls := .none, data := .fields ps }
    exact k a _ (.inl rfl) e
  | met f y =>
    have e : h.get? a = some (PySem.W.methodObj (.ref f) (.ref y)) := x
    show h'.get? a = some (PySem.W.methodObj (.ref f) (.ref y))
    exact k a _ (.inl rfl) e
  | ext φ => obtain ⟨p, ⟨o, e⟩, st⟩ := x; exact ⟨st _ _ p fun o q => k _ _ (.inl rfl) q, ⟨o, k _ _ (.inl rfl) e⟩, st⟩
theorem HOk.lt (x : HOk P w H h) (e : H a = some o) : a < h.objs.size := (x a o e).lt
theorem HOk.fresh (x : HOk P w H h) (e : h.objs.size ≤ a) : H a = none := by
  cases q : H a with
  | none => rfl
  | some u => exact absurd (Nat.lt_of_lt_of_le (x.lt q) e) (Nat.lt_irrefl _)
theorem HOk.kept (x : HOk P w H h) (k : ∀ b u, h.get? b = some u → h'.get? b = some u) : HOk P w H h' := fun a o e =>
  (x a o e).stay (fun b u _ q => k b u q) (fun _ q => q) fun _ _ q => q
theorem HOk.laid (x : HOk P w H h) (k : ∀ b u, h.get? b = some u → h'.get? b = some u) (hp : h.objs.size ≤ a) (new : ObjOk P w (upd H a o) h' a o) : HOk P w (upd H a o) h' := fun b u e => by
  have hn := x.fresh hp
  by_cases hb : b = a
  · subst hb; rw [upd_same] at e; cases e; exact new
  · rw [upd_ne hb] at e
    exact (x b u e).stay (fun c v _ q => k c v q) (fun c q => by rw [upd_ne (ne_of_none q hn)]; exact q) fun c xs q => by rw [upd_ne (ne_of_none q hn)]; exact q
end
def Rd (H : Hp) (a : Addr) (u : HO) : Prop := H a = some u ∨ ∃ o, H a = some (.frz o u)
theorem Rd.of {H : Hp} {a : Addr} {u : HO} (h : H a = some u) : Rd H a u := .inl h
theorem Rd.ok {P : Program} {w : World} {H : Hp} {h : Heap} {a : Addr} {u : HO} (r : Rd H a u) (x : HOk P w H h) : ObjOk P w H h a u := by
  rcases r with r | ⟨o, r⟩
  · exact x a u r
  · obtain ⟨_, q⟩ := x a _ r
    exact q
def Mut : Option HO → Prop
  | some (.lst _) => True
  | some (.dK _) => True
  | some (.dT _) => True
  | some (.set _ _) => True
  | some (.ins _ _ _) => True
  | some (.ext _) => True
  | _ => False
section
variable {P : Program} {w : World} {H : Hp} {h h' : Heap} {x e : Addr} {o' : HO}
theorem HOk.write (ok : HOk P w H h) (mu : Mut (H x)) (he : e = x ∨ H e = some (.own x)) (k : ∀ b u, b ≠ e → h.get? b = some u → h'.get? b = some u) (heo : ∃ u, h'.get? e = some u)
    (new : ObjOk P w (upd H x o') h' x o') : HOk P w (upd H x o') h' := fun b u q => by
  have nown : ∀ c y, H c = some (.own y) → c ≠ x := fun c y r z => by subst z; rw [r] at mu; exact mu
  have ntup : ∀ c xs, H c = some (.tup xs) → c ≠ x := fun c xs r z => by subst z; rw [r] at mu; exact mu
  by_cases hb : b = x
  · subst hb; rw [upd_same] at q; cases q; exact new
  · rw [upd_ne hb] at q
    by_cases hbe : b = e
    · have q' : H b = some (.own x) := by
        rcases he with z | z
        · exact absurd (hbe.trans z) hb
        · rw [hbe]; exact z
      rw [q] at q'; cases q'
      obtain ⟨v, hv⟩ := heo
      exact ⟨v, by rw [hbe]; exact hv⟩
    · refine (ok b u q).stay (fun c v hc r => k c v ?_ r) (fun c r => by rw [upd_ne (nown c b r)]; exact r) fun c xs r => by rw [upd_ne (ntup c xs r)]; exact r
      rcases hc with rfl | hc
      · exact hbe
      · rintro rfl
        rcases he with z | z
        · exact nown c b hc z
        · rw [hc] at z; cases z; exact hb rfl
end
structure Un (fs ex : List Addr) (H H' : Hp) (h h' : Heap) : Prop where
  keep : ∀ b o, h.get? b = some o → H b = none → b ∉ fs → b ∉ ex → h'.get? b = some o
  slot : ∀ b o, h.get? b = some o → H b = none → b ∈ fs → b ∉ ex → ∃ sl, h'.get? b = some { o with slots := sl }
  free : ∀ b o, h.get? b = some o → H b = none → b ∉ ex → H' b = none
  there : ∀ b o, h.get? b = some o → b ∉ ex → ∃ o', h'.get? b = some o'
  tups : ∀ b xs, H b = some (.tup xs) → H' b = some (.tup xs)
  frzs : ∀ b o u, H b = some (.frz o u) → H' b = some (.frz o u)
  tbls : ∀ b ps, H b = some (.tbl ps) → ∃ more, H' b = some (.tbl (ps ++ more))
section
variable {fs fs' ex ex' : List Addr} {H H1 H2 : Hp} {h h1 h2 h' : Heap} {a x e : Addr} {o : HO}
theorem Un.any (u : Un fs ex H H1 h h1) {b : Addr} {ob : Obj} (q : h.get? b = some ob) (n : H b = none) (hx : b ∉ ex) : ∃ sl, h1.get? b = some { ob with slots := sl } := by
  by_cases hb : b ∈ fs
  · exact u.slot b ob q n hb hx
  · exact ⟨ob.slots, u.keep b ob q n hb hx⟩
theorem Un.trans (a : Un fs ex H H1 h h1) (b : Un fs ex H1 H2 h1 h2) : Un fs ex H H2 h h2 where
  keep := fun c ob q n hc hx => b.keep c ob (a.keep c ob q n hc hx) (a.free c ob q n hx) hc hx
  slot := fun c ob q n hc hx => by
    obtain ⟨sl, e1⟩ := a.slot c ob q n hc hx
    obtain ⟨sl', e2⟩ := b.slot c _ e1 (a.free c ob q n hx) hc hx
    exact ⟨sl', e2⟩
  free := fun c ob q n hx => by
    obtain ⟨o', e1⟩ := a.there c ob q hx
    exact b.free c o' e1 (a.free c ob q n hx) hx
  there := fun c ob q hx => by
    obtain ⟨o', e1⟩ := a.there c ob q hx
    exact b.there c o' e1 hx
  tups := fun c xs q => b.tups c xs (a.tups c xs q)
  frzs := fun c ob xs q => b.frzs c ob xs (a.frzs c ob xs q)
  tbls := fun c ps q => by
    obtain ⟨m1, e1⟩ := a.tbls c ps q
    obtain ⟨m2, e2⟩ := b.tbls c _ e1
    exact ⟨m1 ++ m2, by rw [e2, Array.append_assoc]⟩
theorem Un.kept (k : ∀ b u, h.get? b = some u → h'.get? b = some u) : Un fs ex H H h h' :=
  ⟨fun b ob q _ _ _ => k b ob q, fun b ob q _ _ _ => ⟨ob.slots, k b ob q⟩, fun _ _ _ n _ => n, fun b ob q _ => ⟨ob, k b ob q⟩, fun _ _ q => q, fun _ _ _ q => q, fun _ ps q => ⟨#[], by rw [q]; simp⟩⟩
theorem Un.refl : Un fs ex H H h h := Un.kept fun _ _ q => q
theorem Un.laid (k : ∀ b u, h.get? b = some u → h'.get? b = some u) (hp : h.objs.size ≤ a) (hn : H a = none) : Un fs ex H (upd H a o) h h' where
  keep := fun b u q _ _ _ => k b u q
  slot := fun b u q _ _ _ => ⟨u.slots, k b u q⟩
  free := fun b u q n _ => by rw [upd_ne (Nat.ne_of_lt (Nat.lt_of_lt_of_le (Heap.lt_size q) hp))]; exact n
  there := fun b u q _ => ⟨u, k b u q⟩
  tups := fun b xs q => by rw [upd_ne (ne_of_none q hn)]; exact q
  frzs := fun b u xs q => by rw [upd_ne (ne_of_none q hn)]; exact q
  tbls := fun b ps q => ⟨#[], by rw [upd_ne (ne_of_none q hn), q]; simp⟩
theorem Un.write (mu : Mut (H x)) (he : e = x ∨ H e = some (.own x)) (k : ∀ b u, b ≠ e → h.get? b = some u → h'.get? b = some u) (heo : ∃ u, h'.get? e = some u) : Un fs ex H (upd H x o) h h' := by
  have hx : ∀ b, H b = none → b ≠ x := fun b n z => by subst z; rw [n] at mu; exact mu
  have hb : ∀ b, H b = none → b ≠ e := fun b n z => by
    subst z
    rcases he with r | r
    · exact hx b n r
    · rw [n] at r; cases r
  have hm : ∀ b u, H b = some u → ¬ Mut (some u) → b ≠ x := fun b u q nm z => by subst z; rw [q] at mu; exact nm mu
  refine ⟨fun b u q n _ _ => k b u (hb b n) q, fun b u q n _ _ => ⟨u.slots, k b u (hb b n) q⟩, fun b u q n _ => by rw [upd_ne (hx b n)]; exact n, fun b u q _ => ?_,
    fun b xs q => by rw [upd_ne (hm b _ q fun z => z)]; exact q, fun b u xs q => by rw [upd_ne (hm b _ q fun z => z)]; exact q, fun b ps q => ⟨#[], by rw [upd_ne (hm b _ q fun z => z), q]; simp⟩⟩
  by_cases hbe : b = e
  · subst hbe; exact heo
  · exact ⟨u, k b u hbe q⟩
theorem Un.mono (u : Un fs ex H H1 h h1) (hs : ∀ b ∈ fs, b ∈ fs') (hx : ∀ b ∈ ex, b ∈ ex') : Un fs' ex' H H1 h h1 :=
  ⟨fun b ob q n hb he => u.keep b ob q n (fun z => hb (hs b z)) fun z => he (hx b z), fun _ _ q n _ he => u.any q n fun z => he (hx _ z), fun b ob q n he => u.free b ob q n fun z => he (hx b z), fun b ob q he => u.there b ob q fun z => he (hx b z), u.tups, u.frzs, u.tbls⟩
end
def trk (h : Heap) (H : Hp) : List Addr := (List.range h.objs.size).filter fun a => (H a).isSome
def hidT (h : Heap) (H : Hp) : Heap := PySem.W.hideAll h (trk h H)
theorem hidT_size (h : Heap) (H : Hp) : (hidT h H).objs.size = h.objs.size := PySem.W.hideAll_size _ _
theorem hidT_get {h : Heap} {H : Hp} {b : Addr} {o : Obj} (e : h.get? b = some o) (n : H b = none) : (hidT h H).get? b = some o :=
  PySem.W.hideAll_get _ e fun hm => by
    have q : (H b).isSome = true := (List.mem_filter.mp hm).2
    rw [n] at q; simp at q
theorem of_hidT {h : Heap} {H : Hp} {b : Addr} {o : Obj} (e : (hidT h H).get? b = some o) : h.get? b = some o ∧ H b = none := by
  have e' : h.get? b = some o := PySem.W.of_hideAll (trk h H) e
  refine ⟨e', ?_⟩
  cases q : H b with
  | none => rfl
  | some x =>
    have hm : b ∈ trk h H := List.mem_filter.mpr ⟨List.mem_range.mpr (Heap.lt_size e'), by simp [q]⟩
    have z : (hidT h H).get? b = none := PySem.W.hideAll_none (trk h H) hm
    rw [z] at e; cases e
def allNews (g h : Heap) (L : Addr) : List (Addr × Obj) := (List.range h.objs.size).filterMap fun a => if a = L ∨ (g.get? a).isSome = true then none else (h.get? a).map fun o => (a, o)
def rest (g h : Heap) (L d : Addr) : List (Addr × Obj) := (allNews g h L).filter fun p => decide (p.1 ≠ d)
structure Mod (K : PySem.W.Frag) (mg : Str → Option Value) (base : Heap) : Prop where
  kin : K.In base
  glob : base.Ns mainGlobals mg
  blt : ∃ mb, base.Ns builtinsNs mb ∧ ∀ x : Str, x ≠ "__name__" → mb x = bootBuiltins x
  nolimit : base.NoLimit
  bmain : ∃ bm ob, mg "__builtins__" = some (.ref bm) ∧ bm ≠ builtinsNs ∧ base.get? bm = some ob ∧ ob.cls = .type "module" ∧ ob.dict = some builtinsNs ∧ ob.data = .plain
structure Cx where
  prog : Program
  w : World
  K : PySem.W.Frag
  mg : Str → Option Value
  base : Heap
  A : Around
  N : List Str
  s₀ : Shared
  H₀ : Hp
  env : Env
  outer : List Env
  stack : List Env
  ex : List Addr
  fn : Str → Bool
  calm : Bool
  pn : List (Addr × Obj)
  xe : Value → Shared → Prop
def frs (l : List Env) : List Addr := l.filterMap (·.frame)
abbrev Cx.fs (X : Cx) : List Addr := frs X.outer
def Vis (sc : Scope) (x : Str) : Prop := sc.names.lookup x = some .local ∨ sc.names.lookup x = some .cell ∨ sc.names.lookup x = some .free
def Loc (sc : Scope) (x : Str) : Prop := sc.names.lookup x = some .local ∨ sc.names.lookup x = some .cell
def Look (env : Env) (h : Heap) (m : Str → Option Value) (x : Str) (u : Value) : Prop :=
  (env.kindOf x = some .local ∧ m x = some u) ∨ ((env.kindOf x = some .cell ∨ env.kindOf x = some .free) ∧ ∃ c, env.cells.lookup x = some c ∧ h.IsCell c (some u))
structure Cx.Ok (X : Cx) : Prop where
  mod : Mod X.K X.mg X.base
  kind : X.env.scope.kind = .function
  glob : X.env.globals = mainGlobals
  blt : X.env.builtins = builtinsNs
  above : X.s₀.heap.objs.size ≤ X.env.locals
  inj : ∀ x y c, X.env.cells.lookup x = some c → X.env.cells.lookup y = some c → x = y
  has : ∀ x, (X.env.kindOf x = some .cell ∨ X.env.kindOf x = some .free) → ∃ c, X.env.cells.lookup x = some c
  cab : ∀ x c, X.fn x = true → X.env.cells.lookup x = some c → X.s₀.heap.objs.size ≤ c
  hd : X.calm = true → X.A.handled = none
  frames : X.A.frames = some X.stack
  stk : X.stack = X.outer ∨ (X.stack = X.env :: X.outer ∧ X.env.frame = some X.env.locals)
  exf : ∀ b ∈ X.ex, b ≠ X.env.locals ∧ ∀ x c, X.env.cells.lookup x = some c → c ≠ b
  bs : ∀ b o, X.base.get? b = some o → X.s₀.heap.get? b = some o ∧ X.H₀ b = none
  bsz : X.base.objs.size ≤ X.s₀.heap.objs.size
  noex : ∀ b o, X.base.get? b = some o → b ∉ X.ex
  exfs : ∀ b ∈ X.ex, b ∉ X.fs
  funs : X.s₀.heap.FunFrames X.base X.outer
  frf : ∀ b ∈ X.fs, X.H₀ b = none
structure Inv (X : Cx) (pins : List (Addr × Obj)) (σ : List (Option V)) (H : Hp) (s : Shared) : Prop where
  ok : X.Ok
  os : s.os = X.s₀.os
  bare : AllBare s.gens
  base : Un X.fs X.ex X.H₀ H X.s₀.heap s.heap
  loc : ∃ m, s.heap.Ns X.env.locals m ∧ ∀ (i : Nat) (x : Str) (v : V), X.N[i]? = some x → σ[i]? = some (some v) → Vis X.env.scope x → ∃ u, RelV v u ∧ Look X.env s.heap m x u
  cell : ∀ x c, X.env.cells.lookup x = some c → ∃ v, s.heap.IsCell c v
  free : H X.env.locals = none
  freeC : ∀ x c, X.env.cells.lookup x = some c → H c = none
  pin : ∀ p ∈ X.pn ++ pins, s.heap.get? p.1 = some p.2 ∧ H p.1 = none ∧ p.1 ≠ X.env.locals ∧ p.1 ∉ X.fs ∧ ∀ v, p.2.data ≠ .cell v
  hok : HOk X.prog X.w H s.heap
  len : σ.length = X.N.length
section
variable {X : Cx} {pins : List (Addr × Obj)} {σ : List (Option V)} {H H' : Hp} {s : Shared} {h' : Heap}
theorem Cx.Ok.nofr (ok : X.Ok) {b : Addr} {o : Obj} (e : X.base.get? b = some o) : b ∉ X.fs := fun hb => by
  have := (ok.funs.mem hb).1
  rw [e] at this; cases this
theorem Inv.bs (I : Inv X pins σ H s) : ∀ b o, X.base.get? b = some o → s.heap.get? b = some o ∧ H b = none := fun b o e =>
  ⟨I.base.keep b o (I.ok.bs b o e).1 (I.ok.bs b o e).2 (I.ok.nofr e) (I.ok.noex b o e), I.base.free b o (I.ok.bs b o e).1 (I.ok.bs b o e).2 (I.ok.noex b o e)⟩
theorem Inv.bk (I : Inv X pins σ H s) : ∀ b o, X.base.get? b = some o → s.heap.get? b = some o := fun b o e => (I.bs b o e).1
theorem Inv.mod (I : Inv X pins σ H s) : Mod X.K X.mg X.base := I.ok.mod
theorem Inv.kIn (I : Inv X pins σ H s) : X.K.In s.heap := I.ok.mod.kin.keeps I.bk
theorem Inv.nolimit (I : Inv X pins σ H s) : s.heap.NoLimit := I.ok.mod.nolimit.keeps I.bk
theorem Inv.fr (I : Inv X pins σ H s) : ∃ m, Fr X.base X.env.locals s.heap m :=
  let ⟨m, hn, _⟩ := I.loc
  ⟨m, hn, I.bk, Nat.le_trans I.ok.bsz I.ok.above⟩
theorem Inv.lt (I : Inv X pins σ H s) : X.env.locals < s.heap.objs.size := let ⟨_, hn, _⟩ := I.loc; hn.lt
theorem Inv.sz (I : Inv X pins σ H s) : X.s₀.heap.objs.size ≤ s.heap.objs.size := Nat.le_trans I.ok.above (Nat.le_of_lt I.lt)
theorem Inv.nofs (I : Inv X pins σ H s) {a : Addr} (h : s.heap.objs.size ≤ a) : a ∉ X.fs := fun hb => by
  obtain ⟨_, o, ho, _⟩ := I.ok.funs.mem hb
  exact absurd (Nat.lt_of_lt_of_le (Heap.lt_size ho) (Nat.le_trans I.sz h)) (Nat.lt_irrefl _)
theorem Inv.cne (I : Inv X pins σ H s) : ∀ x c, X.env.cells.lookup x = some c → c ≠ X.env.locals := fun x c e z => by
  obtain ⟨v, o, ho, hd⟩ := I.cell x c e
  obtain ⟨m, ⟨o', es, ep, ho', hd', _⟩, _⟩ := I.loc
  rw [z, ho'] at ho; cases ho; rw [hd'] at hd; cases hd
theorem Inv.funs (I : Inv X pins σ H s) : s.heap.FunFrames X.base X.outer := by
  have all : ∀ (l : List Env), (∀ b ∈ frs l, b ∈ X.fs) → X.s₀.heap.FunFrames X.base l → s.heap.FunFrames X.base l := by
    intro l
    induction l with
    | nil => intro _ _; trivial
    | cons env r ih =>
      intro hs hl
      obtain ⟨hk, ⟨L, o, hf, hn, ho, hd⟩, hr⟩ := hl
      have hL : L ∈ X.fs := hs L (by unfold frs; rw [List.filterMap_cons, hf]; exact List.mem_cons_self)
      obtain ⟨sl, e⟩ := I.base.slot L o ho (I.ok.frf L hL) hL fun z => I.ok.exfs L z hL
      exact ⟨hk, ⟨L, _, hf, hn, e, hd⟩, ih (fun b hb => hs b (by unfold frs; rw [List.filterMap_cons, hf]; exact List.mem_cons_of_mem _ hb)) hr⟩
  exact all X.outer (fun _ hb => hb) I.ok.funs
theorem Inv.stack (I : Inv X pins σ H s) : s.heap.FunFrames X.base X.stack := by
  rcases I.ok.stk with e | ⟨e, hf⟩
  · rw [e]; exact I.funs
  · rw [e]
    obtain ⟨m, hn, _⟩ := I.loc
    refine .cons (by rw [I.ok.kind]; decide) hf hn ?_ I.funs
    exact Heap.get?_none_of_le (Nat.le_trans I.ok.bsz I.ok.above)
theorem Inv.stkSub (I : Inv X pins σ H s) : ∀ b ∈ frs X.stack, b ∈ X.env.locals :: X.fs := fun b hb => by
  rcases I.ok.stk with e | ⟨e, hf⟩
  · rw [e] at hb; exact List.mem_cons_of_mem _ hb
  · rw [e] at hb
    unfold frs at hb
    rw [List.filterMap_cons, hf] at hb
    exact hb
theorem Inv.stkFree (I : Inv X pins σ H s) : ∀ b ∈ frs X.stack, H b = none := fun b hb => by
  rcases List.mem_cons.mp (I.stkSub b hb) with e | hb
  · rw [e]; exact I.free
  · obtain ⟨_, o, ho, _⟩ := I.ok.funs.mem hb
    exact I.base.free b o ho (I.ok.frf b hb) fun z => I.ok.exfs b z hb
theorem Inv.step {g' : Array GenState} {t' : Nat} {d' : Drawn} {ch : List Addr} (I : Inv X pins σ H s)
    (hch : ∀ b ∈ ch, (b ∈ X.ex ∨ X.s₀.heap.objs.size ≤ b) ∧ b ≠ X.env.locals ∧ (∀ x c, X.env.cells.lookup x = some c → c ≠ b) ∧ ∀ p ∈ X.pn ++ pins, p.1 ≠ b)
    (keep : ∀ b o, b ≠ X.env.locals → b ∉ X.fs → b ∉ ch → s.heap.get? b = some o → H b = none → h'.get? b = some o)
    (slot : ∀ b o, b ≠ X.env.locals → b ∈ X.fs → b ∉ ch → s.heap.get? b = some o → H b = none → ∃ sl, h'.get? b = some { o with slots := sl }) (free : ∀ b o, b ∉ ch → s.heap.get? b = some o → H b = none → H' b = none)
    (there : ∀ b o, b ∉ ch → s.heap.get? b = some o → ∃ o', h'.get? b = some o')
    (tups : ∀ b xs, H b = some (.tup xs) → H' b = some (.tup xs)) (frzs : ∀ b o u, H b = some (.frz o u) → H' b = some (.frz o u)) (tbls : ∀ b ps, H b = some (.tbl ps) → ∃ more, H' b = some (.tbl (ps ++ more)))
    (ns : ∀ m, s.heap.Ns X.env.locals m → h'.Ns X.env.locals m) (hok : HOk X.prog X.w H' h') (hg : AllBare g') :
    Inv X pins σ H' { s with heap := h', gens := g', drawn := d', toks := t' } := by
  have neL : ∀ b o, X.s₀.heap.get? b = some o → b ≠ X.env.locals := fun b o e => Nat.ne_of_lt (Nat.lt_of_lt_of_le (Heap.lt_size e) I.ok.above)
  have neC : ∀ b o, X.s₀.heap.get? b = some o → b ∉ X.ex → b ∉ ch := fun b o e hx hb => by
    rcases (hch b hb).1 with z | z
    · exact hx z
    · exact absurd (Nat.lt_of_lt_of_le (Heap.lt_size e) z) (Nat.lt_irrefl _)
  have cellK : ∀ x c, X.env.cells.lookup x = some c → ∀ v, s.heap.IsCell c v → h'.IsCell c v := fun x c e v ⟨o, ho, hd⟩ => by
    have nch : c ∉ ch := fun z => (hch c z).2.2.1 x c e rfl
    by_cases hc : c ∈ X.fs
    · obtain ⟨sl, q⟩ := slot c o (I.cne x c e) hc nch ho (I.freeC x c e)
      exact ⟨_, q, hd⟩
    · exact ⟨o, keep c o (I.cne x c e) hc nch ho (I.freeC x c e), hd⟩
  refine ⟨I.ok, I.os, hg, ⟨fun b o e n hb hx => ?_, fun b o e n hb hx => ?_, fun b o e n hx => ?_, fun b o e hx => ?_, fun b xs e => tups b xs (I.base.tups b xs e), fun b o xs e => frzs b o xs (I.base.frzs b o xs e), fun b ps e => ?_⟩, ?_, fun x c e => ?_, ?_, fun x c e => ?_, fun p hp => ?_, hok, I.len⟩
  · exact keep b o (neL b o e) hb (neC b o e hx) (I.base.keep b o e n hb hx) (I.base.free b o e n hx)
  · obtain ⟨sl, e1⟩ := I.base.slot b o e n hb hx
    obtain ⟨sl', e2⟩ := slot b _ (neL b o e) hb (neC b o e hx) e1 (I.base.free b o e n hx)
    exact ⟨sl', e2⟩
  · obtain ⟨o', e1⟩ := I.base.there b o e hx
    exact free b o' (neC b o e hx) e1 (I.base.free b o e n hx)
  · obtain ⟨o', e1⟩ := I.base.there b o e hx
    exact there b o' (neC b o e hx) e1
  · obtain ⟨m1, e1⟩ := I.base.tbls b ps e
    obtain ⟨m2, e2⟩ := tbls b _ e1
    exact ⟨m1 ++ m2, by rw [e2, Array.append_assoc]⟩
  · obtain ⟨m, hn, hl⟩ := I.loc
    refine ⟨m, ns m hn, fun i x v e1 e2 e3 => ?_⟩
    obtain ⟨u, r, l⟩ := hl i x v e1 e2 e3
    refine ⟨u, r, ?_⟩
    rcases l with l | ⟨k, c, e, z⟩
    · exact .inl l
    · exact .inr ⟨k, c, e, cellK x c e _ z⟩
  · obtain ⟨v, z⟩ := I.cell x c e
    exact ⟨v, cellK x c e v z⟩
  · obtain ⟨m, ⟨o, _, _, ho, _⟩, _⟩ := I.loc
    exact free _ o (fun z => (hch _ z).2.1 rfl) ho I.free
  · obtain ⟨v, o, ho, hd⟩ := I.cell x c e
    exact free c o (fun z => (hch c z).2.2.1 x c e rfl) ho (I.freeC x c e)
  · obtain ⟨e, n, ne, nf, d⟩ := I.pin p hp
    have nch : p.1 ∉ ch := fun z => (hch p.1 z).2.2.2 p hp rfl
    exact ⟨keep p.1 p.2 ne nf nch e n, free p.1 p.2 nch e n, ne, nf, d⟩
theorem Inv.un {t' : Nat} (I : Inv X pins σ H s) (u : Un X.fs [] H H' s.heap h') (hok : HOk X.prog X.w H' h') : Inv X pins σ H' { s with heap := h', toks := t' } := by
  obtain ⟨m, ⟨o, es, ep, ho, r⟩, _⟩ := id I.loc
  obtain ⟨sl, hL⟩ := u.any ho I.free (by simp)
  exact I.step (g' := s.gens) (d' := s.drawn) (ch := []) (fun _ z => nomatch z) (fun b o _ hb _ e n => u.keep b o e n hb (by simp)) (fun b o _ hb _ e n => u.slot b o e n hb (by simp)) (fun b o _ e n => u.free b o e n (by simp)) (fun b o _ e => u.there b o e (by simp)) u.tups u.frzs u.tbls (fun m' hm => by
    obtain ⟨o', es', ep', ho', r'⟩ := hm
    rw [ho] at ho'; cases ho'
    exact ⟨_, es', ep', hL, r'⟩) hok I.bare
theorem Inv.call {g' : Array GenState} {t' : Nat} {d' : Drawn} {ch : List Addr} (I : Inv X pins σ H s) (u : Un (frs X.stack) ch H H' s.heap h') (hok : HOk X.prog X.w H' h') (hg : AllBare g')
    (hch : ∀ b ∈ ch, (b ∈ X.ex ∨ X.s₀.heap.objs.size ≤ b) ∧ b ≠ X.env.locals ∧ (∀ x c, X.env.cells.lookup x = some c → c ≠ b) ∧ ∀ p ∈ X.pn ++ pins, p.1 ≠ b) :
    Inv X pins σ H' { s with heap := h', gens := g', drawn := d', toks := t' } := by
  obtain ⟨m, ⟨o, es, ep, ho, r⟩, _⟩ := id I.loc
  obtain ⟨sl, hL⟩ := u.any ho I.free fun z => (hch _ z).2.1 rfl
  exact I.step (ch := ch) hch (fun b o hL hb hc e n => u.keep b o e n (fun z => (List.mem_cons.mp (I.stkSub b z)).elim hL hb) hc) (fun b o _ _ hc e n => u.any e n hc) (fun b o hc e n => u.free b o e n hc) (fun b o hc e => u.there b o e hc) u.tups u.frzs u.tbls (fun m' hm => by
    obtain ⟨o', es', ep', ho', r'⟩ := hm
    rw [ho] at ho'; cases ho'
    exact ⟨_, es', ep', hL, r'⟩) hok hg
theorem Inv.turned {t' : Nat} {it : Addr} (I : Inv X pins σ H s) (k : ∀ b o, b ≠ it → s.heap.get? b = some o → h'.get? b = some o) (hn : H it = none) (hL : it ≠ X.env.locals)
    (h1 : it ∈ X.ex ∨ X.s₀.heap.objs.size ≤ it) (h2 : ∀ x c, X.env.cells.lookup x = some c → c ≠ it) (h3 : ∀ p ∈ X.pn ++ pins, p.1 ≠ it) : Inv X pins σ H { s with heap := h', toks := t' } := by
  have nit : ∀ b u, H b = some u → b ≠ it := fun b u e z => by rw [z, hn] at e; cases e
  refine I.step (g' := s.gens) (d' := s.drawn) (ch := [it]) (fun b hb => ?_) (fun b o _ _ hc e _ => k b o (fun z => hc (by simp [z])) e) (fun b o _ _ hc e _ => ⟨o.slots, k b o (fun z => hc (by simp [z])) e⟩) (fun _ _ _ _ n => n)
    (fun b o hc e => ⟨o, k b o (fun z => hc (by simp [z])) e⟩) (fun _ _ e => e) (fun _ _ _ e => e) (fun b ps e => ⟨#[], by rw [e]; simp⟩) (fun m hm => ?_) (fun b u e => ?_) I.bare
  · have e : b = it := by simpa using hb
    subst e
    exact ⟨h1, hL, h2, h3⟩
  · obtain ⟨o, es, ep, ho, r⟩ := hm
    exact ⟨o, es, ep, k _ o (Ne.symm hL) ho, r⟩
  · refine (I.hok b u e).stay (fun c v hc q => k c v ?_ q) (fun _ q => q) fun _ _ q => q
    rcases hc with z | z
    · rw [z]; exact nit b u e
    · exact nit c _ z
theorem Inv.tok (I : Inv X pins σ H s) (t : Nat) : Inv X pins σ H { s with toks := t } := I.un (h' := s.heap) (t' := t) Un.refl I.hok
theorem Inv.kept {t' : Nat} (I : Inv X pins σ H s) (k : ∀ b u, s.heap.get? b = some u → h'.get? b = some u) : Inv X pins σ H { s with heap := h', toks := t' } := I.un (Un.kept k) (I.hok.kept k)
theorem Inv.laid {a : Addr} {o : HO} {t' : Nat} (I : Inv X pins σ H s) (k : ∀ b u, s.heap.get? b = some u → h'.get? b = some u) (hp : s.heap.objs.size ≤ a) (new : ObjOk X.prog X.w (upd H a o) h' a o) :
    Inv X pins σ (upd H a o) { s with heap := h', toks := t' } := I.un (Un.laid k hp (I.hok.fresh hp)) (I.hok.laid k hp new)
theorem Inv.write {x e : Addr} {o : HO} {t' : Nat} (I : Inv X pins σ H s) (mu : Mut (H x)) (he : e = x ∨ H e = some (.own x)) (k : ∀ b u, b ≠ e → s.heap.get? b = some u → h'.get? b = some u) (heo : ∃ u, h'.get? e = some u)
    (new : ObjOk X.prog X.w (upd H x o) h' x o) : Inv X pins σ (upd H x o) { s with heap := h', toks := t' } := I.un (Un.write mu he k heo) (I.hok.write mu he k heo new)
theorem Inv.pins_of {pins' : List (Addr × Obj)} (I : Inv X pins σ H s) (h : ∀ p ∈ pins', s.heap.get? p.1 = some p.2 ∧ H p.1 = none ∧ p.1 ≠ X.env.locals ∧ p.1 ∉ X.fs ∧ ∀ v, p.2.data ≠ .cell v) : Inv X pins' σ H s :=
  ⟨I.ok, I.os, I.bare, I.base, I.loc, I.cell, I.free, I.freeC, fun p hp => (List.mem_append.mp hp).elim (fun z => I.pin p (List.mem_append_left _ z)) (h p), I.hok, I.len⟩
theorem nodup_ix {N : List Str} (hN : N.Nodup) {i j : Nat} {x : Str} (a : N[i]? = some x) (b : N[j]? = some x) : i = j := by
  obtain ⟨h1, e1⟩ := List.getElem?_eq_some_iff.mp a
  obtain ⟨h2, e2⟩ := List.getElem?_eq_some_iff.mp b
  exact (List.getElem_inj hN).mp (e1.trans e2.symm)
theorem store_ok2 {M : Model} {A : Around} {E : Value → Shared → Prop} {i : Nat} {x : Str} {v : V} {u : Value} {Q : Unit → Shared → Prop} (I : Inv X pins σ H s) (hN : X.N.Nodup) (hi : X.N[i]? = some x) (hx : Loc X.env.scope x) (r : RelV v u)
    (h : ∀ s', Inv X pins (σ.set i (some v)) H s' → (∃ a, Heap.SameBut a s.heap s'.heap ∧ (a = X.env.locals ∨ X.env.cells.lookup x = some a)) → Q () s') (hf : X.fn x = true ∨ X.env.scope.names.lookup x = some .local := by first | exact .inl rfl | exact .inr rfl | assumption) : wpAny M A (storeName X.env x u) Q E s := by
  obtain ⟨m, hn, hl⟩ := id I.loc
  have hcls : (X.env.scope.kind == .class || (X.env.scope.kind == .module && X.env.locals != X.env.globals)) = false := by rw [I.ok.kind]; rfl
  have hiσ : i < σ.length := by rw [I.len]; exact (List.getElem?_eq_some_iff.mp hi).1
  have cne := I.cne
  have tracked : ∀ {a : Addr} {h' : Heap}, (∃ o, s.heap.get? a = some o ∧ H a = none) → Heap.SameBut a s.heap h' → HOk X.prog X.w H h' := fun {a h'} ha hs b ob e => by
    obtain ⟨_, _, hfree⟩ := ha
    refine (I.hok b ob e).stay (fun c w' hc q => (hs.2 c ?_).trans q) (fun _ q => q) fun _ _ q => q
    rintro rfl
    rcases hc with rfl | hc
    · rw [hfree] at e; cases e
    · rw [hfree] at hc; cases hc
  rcases hx with hk | hk
  · refine wpAny_storeName_local hk hn (fun h' hn' hs => ?_) hcls
    obtain ⟨oL, _, _, hoL, _⟩ := id hn
    refine h _ ⟨I.ok, I.os, I.bare, ⟨fun b o e n hb hx => ?_, fun b o e n hb hx => ?_, I.base.free, fun b o e hx => ?_, I.base.tups, I.base.frzs, I.base.tbls⟩, ⟨_, hn', fun j y v' e1 e2 e3 => ?_⟩, fun y c e => ?_, I.free, I.freeC, fun p hp => ?_, tracked ⟨oL, hoL, I.free⟩ hs, by simpa using I.len⟩ ⟨_, hs, .inl rfl⟩
    · exact (hs.2 b (Nat.ne_of_lt (Nat.lt_of_lt_of_le (Heap.lt_size e) I.ok.above))).trans (I.base.keep b o e n hb hx)
    · obtain ⟨sl, e1⟩ := I.base.slot b o e n hb hx
      exact ⟨sl, (hs.2 b (Nat.ne_of_lt (Nat.lt_of_lt_of_le (Heap.lt_size e) I.ok.above))).trans e1⟩
    · obtain ⟨o', e1⟩ := I.base.there b o e hx
      exact ⟨o', (hs.2 b (Nat.ne_of_lt (Nat.lt_of_lt_of_le (Heap.lt_size e) I.ok.above))).trans e1⟩
    · by_cases hj : j = i
      · subst hj
        rw [hi] at e1; cases e1
        rw [List.getElem?_set_self hiσ] at e2
        cases e2
        exact ⟨u, r, .inl ⟨hk, by simp⟩⟩
      · rw [List.getElem?_set_ne (Ne.symm hj)] at e2
        obtain ⟨u', r', q⟩ := hl j y v' e1 e2 e3
        refine ⟨u', r', ?_⟩
        rcases q with ⟨k, e⟩ | ⟨k, c, e, z⟩
        · refine .inl ⟨k, ?_⟩
          have : y ≠ x := fun e => hj (nodup_ix hN e1 (e ▸ hi))
          simp [this, e]
        · exact .inr ⟨k, c, e, z.sameBut hs (cne y c e)⟩
    · obtain ⟨w', z⟩ := I.cell y c e
      exact ⟨w', z.sameBut hs (cne y c e)⟩
    · obtain ⟨e, n, ne, nf, d⟩ := I.pin p hp
      exact ⟨(hs.2 p.1 ne).trans e, n, ne, nf, d⟩
  · have hfn : X.fn x = true := by
      rcases hf with z | z
      · exact z
      · rw [z] at hk; cases hk
    obtain ⟨c, hc⟩ := I.ok.has x (.inl hk)
    obtain ⟨w', z⟩ := I.cell x c hc
    refine wpAny_storeName_cell I.ok.kind hk hc z (fun h' hc' hs => ?_)
    obtain ⟨oc, hoc, hocd⟩ := id z
    refine h { s with heap := h' } ⟨I.ok, I.os, I.bare, ⟨fun b o e n hb hx => ?_, fun b o e n hb hx => ?_, I.base.free, fun b o e hx => ?_, I.base.tups, I.base.frzs, I.base.tbls⟩, ⟨m, hn.sameBut hs (Ne.symm (cne x c hc)), fun j y v' e1 e2 e3 => ?_⟩, fun y c' e => ?_, I.free, I.freeC, fun p hp => ?_, tracked ⟨oc, hoc, I.freeC x c hc⟩ hs, by simpa using I.len⟩ ⟨c, hs, .inr hc⟩
    · exact (hs.2 b (Nat.ne_of_lt (Nat.lt_of_lt_of_le (Heap.lt_size e) (I.ok.cab x c hfn hc)))).trans (I.base.keep b o e n hb hx)
    · obtain ⟨sl, e1⟩ := I.base.slot b o e n hb hx
      exact ⟨sl, (hs.2 b (Nat.ne_of_lt (Nat.lt_of_lt_of_le (Heap.lt_size e) (I.ok.cab x c hfn hc)))).trans e1⟩
    · obtain ⟨o', e1⟩ := I.base.there b o e hx
      exact ⟨o', (hs.2 b (Nat.ne_of_lt (Nat.lt_of_lt_of_le (Heap.lt_size e) (I.ok.cab x c hfn hc)))).trans e1⟩
    · by_cases hj : j = i
      · subst hj
        rw [hi] at e1; cases e1
        rw [List.getElem?_set_self hiσ] at e2
        cases e2
        exact ⟨u, r, .inr ⟨.inl hk, c, hc, hc'⟩⟩
      · rw [List.getElem?_set_ne (Ne.symm hj)] at e2
        obtain ⟨u', r', q⟩ := hl j y v' e1 e2 e3
        refine ⟨u', r', ?_⟩
        rcases q with q | ⟨k, c', e, z'⟩
        · exact .inl q
        · refine .inr ⟨k, c', e, z'.sameBut hs ?_⟩
          rintro rfl
          exact hj (nodup_ix hN e1 (I.ok.inj _ _ _ e hc ▸ hi))
    · by_cases hcc : c' = c
      · subst hcc; exact ⟨_, hc'⟩
      · obtain ⟨w2, z2⟩ := I.cell y c' e
        exact ⟨w2, z2.sameBut hs hcc⟩
    · obtain ⟨e, n, ne, nf, d⟩ := I.pin p hp
      refine ⟨(hs.2 p.1 ?_).trans e, n, ne, nf, d⟩
      intro q
      rw [q, hoc] at e
      have q' : oc = p.2 := Option.some.inj e
      exact d w' (by rw [← q']; exact hocd)
theorem store_ok {M : Model} {A : Around} {E : Value → Shared → Prop} {i : Nat} {x : Str} {v : V} {u : Value} {Q : Unit → Shared → Prop} (I : Inv X pins σ H s) (hN : X.N.Nodup) (hi : X.N[i]? = some x) (hx : Loc X.env.scope x) (r : RelV v u)
    (h : ∀ s', Inv X pins (σ.set i (some v)) H s' → Q () s') (hf : X.fn x = true ∨ X.env.scope.names.lookup x = some .local := by first | exact .inl rfl | exact .inr rfl | assumption) : wpAny M A (storeName X.env x u) Q E s :=
  store_ok2 I hN hi hx r (fun s' I' _ => h s' I') hf
theorem Inv.call' {s' : Shared} {ch : List Addr} (I : Inv X pins σ H s) (ho : s'.os = s.os) (u : Un (frs X.stack) ch H H' s.heap s'.heap) (hok : HOk X.prog X.w H' s'.heap) (hg : AllBare s'.gens)
    (hch : ∀ b ∈ ch, (b ∈ X.ex ∨ X.s₀.heap.objs.size ≤ b) ∧ b ≠ X.env.locals ∧ (∀ x c, X.env.cells.lookup x = some c → c ≠ b) ∧ ∀ p ∈ X.pn ++ pins, p.1 ≠ b) : Inv X pins σ H' s' := by
  obtain ⟨h', g', d', t', o'⟩ := s'
  have e : o' = s.os := ho
  subst e
  exact I.call (g' := g') (t' := t') (d' := d') u hok hg hch
end
abbrev XK := Value → Option Addr → Hp → Prop
abbrev St := List (Option V)
abbrev VK := V → Hp → Prop
abbrev TE := St → Hp → VK → Prop
abbrev TT := St → Hp → (Bool → Hp → Prop) → Prop
abbrev TA := St → Hp → (List V → Hp → Prop) → Prop
structure Ends where
  nx : St → Hp → Prop
  rt : VK
  bk : St → Hp → Prop := fun _ _ => False
  ct : St → Hp → Prop := fun _ _ => False
abbrev TS := Ends → St → Hp → Prop
def EP (X : Cx) (pins : List (Addr × Obj)) (σ : St) (Q : VK) (u : Value) (s' : Shared) : Prop := ∃ v H', Inv X pins σ H' s' ∧ RelV v u ∧ Q v H'
def TP (X : Cx) (pins : List (Addr × Obj)) (σ : St) (Q : Bool → Hp → Prop) (b : Bool) (s' : Shared) : Prop := ∃ H', Inv X pins σ H' s' ∧ Q b H'
def AP (X : Cx) (pins : List (Addr × Obj)) (σ : St) (Q : List V → Hp → Prop) (us : List Value) (s' : Shared) : Prop := ∃ vs H', Inv X pins σ H' s' ∧ Vals vs us ∧ Q vs H'
def SP (X : Cx) (pins : List (Addr × Obj)) (D : Ends) (f : Flow) (s' : Shared) : Prop :=
  match f with
  | .next => ∃ σ' H', Inv X pins σ' H' s' ∧ D.nx σ' H'
  | .brk => ∃ σ' H', Inv X pins σ' H' s' ∧ D.bk σ' H'
  | .cont => ∃ σ' H', Inv X pins σ' H' s' ∧ D.ct σ' H'
  | .ret u => ∃ v σ' H', Inv X pins σ' H' s' ∧ RelV v u ∧ D.rt v H'
def PE (X : Cx) (e : Expr) (t : TE) : Prop :=
  ∀ (pins : List (Addr × Obj)) (s : Shared) (σ : St) (H : Hp) (Q : VK), Inv X pins σ H s → t σ H Q → wpAny (model X.prog X.w) X.A (eval e X.env) (EP X pins σ Q) X.xe s
def PT (X : Cx) (e : Expr) (t : TT) : Prop :=
  ∀ (pins : List (Addr × Obj)) (s : Shared) (σ : St) (H : Hp) (Q : Bool → Hp → Prop), Inv X pins σ H s → t σ H Q → wpAny (model X.prog X.w) X.A (isTrue e X.env (eval e X.env)) (TP X pins σ Q) X.xe s
def PW (X : Cx) (e : Expr) (t : TT) : Prop :=
  ∀ (whole : Sem Value) (pins : List (Addr × Obj)) (s : Shared) (σ : St) (H : Hp) (Q : Bool → Hp → Prop), Inv X pins σ H s → t σ H Q → wpAny (model X.prog X.w) X.A (isTrue e X.env whole) (TP X pins σ Q) X.xe s
theorem PW.pt {X : Cx} {e : Expr} {t : TT} (h : PW X e t) : PT X e t := h _
def PA (X : Cx) (es : List Expr) (t : TA) : Prop :=
  ∀ (pos : Pos) (pins : List (Addr × Obj)) (s : Shared) (σ : St) (H : Hp) (Q : List V → Hp → Prop), Inv X pins σ H s → t σ H Q → wpAny (model X.prog X.w) X.A (spliced (backTo pos (starEach es X.env))) (AP X pins σ Q) X.xe s
def PS (X : Cx) (st : Stmt) (t : TS) : Prop :=
  ∀ (pins : List (Addr × Obj)) (s : Shared) (σ : St) (H : Hp) (D : Ends), Inv X pins σ H s → t D σ H → wpAny (model X.prog X.w) X.A (exec st X.env) (SP X pins D) X.xe s
def PSs (X : Cx) (st : List Stmt) (t : TS) : Prop :=
  ∀ (pins : List (Addr × Obj)) (s : Shared) (σ : St) (H : Hp) (D : Ends), Inv X pins σ H s → t D σ H → wpAny (model X.prog X.w) X.A (execs st X.env) (SP X pins D) X.xe s
theorem thn {α : Type} {t : Sem α} {Q Q' : α → Shared → Prop} {M : Model} {A : Around} {E : Value → Shared → Prop} {s : Shared} (h : wpAny M A t Q E s) (hQ : ∀ a s, Q a s → Q' a s) : wpAny M A t Q' E s := wpAny_mono h hQ fun _ _ x => x
section
variable {X : Cx}
theorem bin {a b : Expr} {ta tb : TE} (ha : PE X a ta) (hb : PE X b tb) {pins : List (Addr × Obj)} {s : Shared} {σ : St} {H : Hp} {R : V → V → Hp → Prop} (I : Inv X pins σ H s) (h : ta σ H fun x H1 => tb σ H1 fun y H2 => R x y H2)
    {α : Type} {Q : α → Shared → Prop} {f : Value → Value → Sem α}
    (hf : ∀ v u s2 x y H2, Inv X pins σ H2 s2 → RelV x v → RelV y u → R x y H2 → wpAny (model X.prog X.w) X.A (f v u) Q X.xe s2) :
    wpAny (model X.prog X.w) X.A (eval a X.env) (fun v s₁ => wpAny (model X.prog X.w) X.A (eval b X.env) (fun u s₂ => wpAny (model X.prog X.w) X.A (f v u) Q X.xe s₂) X.xe s₁) X.xe s := by
  refine thn (ha pins s σ H _ I h) fun v s1 ⟨x, H1, I1, r1, q1⟩ => ?_
  refine thn (hb pins s1 σ H1 _ I1 q1) fun u s2 ⟨y, H2, I2, r2, q2⟩ => ?_
  exact hf v u s2 x y H2 I2 r1 r2 q2
def tVar (i : Nat) : TE := fun σ H Q => ∃ v, σ[i]? = some (some v) ∧ Q v H
def tC (v : V) : TE := fun _ H Q => Q v H
theorem pe_var {i : Nat} {x : Str} {pos : Pos} (hN : X.N[i]? = some x) (hv : Vis X.env.scope x) (hd : (x == ("__debug__" : Str)) = false := by decide) (hcd : (x == ("__classdict__" : Str)) = false := by decide) : PE X (.Name x pos) (tVar i) := by
  intro pins s σ H Q I h
  obtain ⟨v, e, h⟩ := h
  obtain ⟨m, hn, hl⟩ := I.loc
  obtain ⟨u, r, l⟩ := hl i x v hN e hv
  have fin : EP X pins σ Q u s := ⟨v, H, I, r, h⟩
  rcases l with ⟨hk, hm⟩ | ⟨hk, c, hc, hcell⟩
  · exact wpAny_Name (wpAny_loadName_local I.ok.kind hk hn hm fin) hd
  · rcases hk with hk | hk
    · exact wpAny_Name (wpAny_loadName_cell I.ok.kind hk hc hcell fin) hd
    · exact wpAny_Name (wpAny_loadName_free I.ok.kind hk hc hcell fin hcd) hd
theorem pe_int {i j pos} : PE X (.Constant (.int i) j pos) (tC (.int i)) := fun _ _ _ H _ I h => wpAny_Constant_int ⟨.int i, H, I.tok _, ⟨_, rfl⟩, h⟩
theorem pe_bl {b j pos} : PE X (.Constant (.bool b) j pos) (tC (.bl b)) := fun _ _ _ H _ I h => Constant_bool ⟨.bl b, H, I, rfl, h⟩
theorem pe_non {j pos} : PE X (.Constant .none j pos) (tC .non) := fun _ _ _ H _ I h => Constant_none ⟨.non, H, I, rfl, h⟩
def Gl (X : Cx) (x : Str) : Prop := X.env.kindOf x = some .globalImplicit
theorem ld_glob {E : Value → Shared → Prop} {pins : List (Addr × Obj)} {s : Shared} {σ : St} {H : Hp} {x : Str} {u : Value} {pos : Pos} {Q : Value → Shared → Prop} (I : Inv X pins σ H s) (hg : Gl X x) (hm : X.mg x = some u) (h : Q u s)
    (hd : (x == ("__debug__" : Str)) = false := by decide) : wpAny (model X.prog X.w) X.A (eval (.Name x pos) X.env) Q E s :=
  Calls.Name_function_global I.ok.kind hg (Calls.loadGlobal_global (by rw [I.ok.glob]; exact I.mod.glob.keeps I.bk) hm h) hd
theorem ld_blt {E : Value → Shared → Prop} {pins : List (Addr × Obj)} {s : Shared} {σ : St} {H : Hp} {x : Str} {u : Value} {pos : Pos} {Q : Value → Shared → Prop} (I : Inv X pins σ H s) (hg : Gl X x) (hm : X.mg x = none) (hv : bootBuiltins x = some u) (h : Q u s)
    (hn : x ≠ "__name__" := by decide) (hd : (x == ("__debug__" : Str)) = false := by decide) : wpAny (model X.prog X.w) X.A (eval (.Name x pos) X.env) Q E s := by
  obtain ⟨mb, h1, h2⟩ := I.mod.blt
  exact Calls.Name_function_global I.ok.kind hg (Calls.loadGlobal_builtin (by rw [I.ok.glob]; exact I.mod.glob.keeps I.bk) hm (by rw [I.ok.blt]; exact h1.keeps I.bk) ((h2 x hn).trans hv) h) hd
theorem pe_glob {x : Str} {v : V} {u : Value} {pos : Pos} (hg : Gl X x) (hm : X.mg x = some u) (r : RelV v u) (hd : (x == ("__debug__" : Str)) = false := by decide) : PE X (.Name x pos) (tC v) :=
  fun _ _ _ H _ I h => ld_glob I hg hm ⟨v, H, I, r, h⟩ hd
theorem pe_bltn {x : Str} {v : V} {u : Value} {pos : Pos} (hg : Gl X x) (hm : X.mg x = none) (hv : bootBuiltins x = some u) (r : RelV v u) (hn : x ≠ "__name__" := by decide) (hd : (x == ("__debug__" : Str)) = false := by decide) : PE X (.Name x pos) (tC v) :=
  fun _ _ _ H _ I h => ld_blt I hg hm hv ⟨v, H, I, r, h⟩ hn hd
variable {a b : Expr} {ta tb : TE} {pos : Pos}
variable {tA tB' : TT} {rest : List Expr}
def tOr (t u : TT) : TT := fun σ H Q => t σ H fun c H1 => if c = true then Q true H1 else u σ H1 Q
def tNot (t : TT) : TT := fun σ H Q => t σ H fun c H1 => Q (!c) H1
theorem pw_or1 (ha : PT X a tA) : PW X (.BoolOp .Or [a] pos) tA := by
  intro wh pins s σ H Q I h
  refine isTrue_or (thn (ha pins s σ H Q I h) fun c s1 e => ?_)
  cases c with
  | false => exact isTrue_or_nil e
  | true => exact e
theorem pw_or (ha : PT X a tA) (hb : PW X (.BoolOp .Or (b :: rest) pos) tB') : PW X (.BoolOp .Or (a :: b :: rest) pos) (tOr tA tB') := by
  intro wh pins s σ H Q I h
  refine isTrue_or (thn (ha pins s σ H _ I h) fun c s1 ⟨H1, I1, q1⟩ => ?_)
  cases c with
  | true => exact ⟨H1, I1, q1⟩
  | false => exact hb wh pins s1 σ H1 Q I1 q1
theorem pt_not (ha : PT X a tA) : PT X (.UnaryOp .Not a pos) (tNot tA) := by
  intro pins s σ H Q I h
  exact isTrue_not (ha pins s σ H (fun c H1 => Q (!c) H1) I h)
def tAndV (ta tb : TE) : TE := fun σ H Q => ta σ H fun x H1 => ∃ c, x = .bl c ∧ if c = true then tb σ H1 Q else Q (.bl false) H1
def tNotV (ta : TE) : TE := fun σ H Q => ta σ H fun x H1 => ∃ c, x = .bl c ∧ Q (.bl (!c)) H1
theorem pe_one {op} {t : TE} (h : PE X a t) : PE X (.BoolOp op [a] pos) t := fun pins s σ H Q I hw => BoolOp_one (h pins s σ H Q I hw)
theorem pe_and (ha : PE X a ta) (hb : PE X (.BoolOp .And (b :: rest) pos) tb) : PE X (.BoolOp .And (a :: b :: rest) pos) (tAndV ta tb) := by
  intro pins s σ H Q I h
  refine BoolOp_and (thn (ha pins s σ H _ I h) fun v s1 ⟨x, H1, I1, r1, q1⟩ => ?_)
  obtain ⟨c, rfl, q1⟩ := q1
  cases r1
  refine wpAny_truthy_bool ?_
  cases c with
  | true => exact hb pins s1 σ H1 Q I1 q1
  | false => exact ⟨.bl false, H1, I1, rfl, q1⟩
theorem pe_not (ha : PE X a ta) : PE X (.UnaryOp .Not a pos) (tNotV ta) := by
  intro pins s σ H Q I h
  refine UnaryOp_ (thn (ha pins s σ H _ I h) fun v s1 ⟨x, H1, I1, r1, q1⟩ => ?_)
  obtain ⟨c, rfl, q1⟩ := q1
  cases r1
  exact not_of (wpAny_truthy_bool ⟨.bl (!c), H1, I1, rfl, q1⟩)
def tIf (t : TT) (ta tb : TE) : TE := fun σ H Q => t σ H fun c H1 => if c = true then ta σ H1 Q else tb σ H1 Q
theorem pe_ifExp {c : Expr} (hc : PT X c tA) (ha : PE X a ta) (hb : PE X b tb) : PE X (.IfExp c a b pos) (tIf tA ta tb) := by
  intro pins s σ H Q I h
  refine wpAny_IfExp (thn (hc pins s σ H _ I h) fun d s1 ⟨H1, I1, q1⟩ => ?_)
  cases d with
  | true => exact ha pins s1 σ H1 Q I1 q1
  | false => exact hb pins s1 σ H1 Q I1 q1
end
def SqL (K : PySem.W.Frag) (H : Hp) (a : Addr) (xs : List V) : Prop :=
  Rd H a (.lst xs) ∨
    ∃ (o : Obj) (its : Array Value) (n : Nat), K.lookup a = some o ∧ o.cls = .type "list" ∧ o.dict = none ∧ o.data = .seq its n ∧ its.size ≤ sizeLine ∧ Vals xs its.toList
def SqT (K : PySem.W.Frag) (H : Hp) (a : Addr) (xs : List V) : Prop :=
  Rd H a (.tup xs) ∨
    ∃ (o : Obj) (its : Array Value) (n : Nat), K.lookup a = some o ∧ o.cls = .type "tuple" ∧ o.data = .seq its n ∧ its.size ≤ sizeLine ∧ Vals xs its.toList
def absV : Value → Option V
  | .none => some .non
  | .bool b => some (.bl b)
  | .int i _ => some (.int i)
  | .str x _ => some (.str x)
  | .bytes b _ => some (.byt b)
  | .float b _ => some (.flt b)
  | .ref a => some (.ref a)
  | .type n => some (.ty n)
  | _ => none
theorem RelV.abs {x : V} {u : Value} (r : RelV x u) : absV u = some x := by
  cases x with
  | non => cases r; rfl
  | bl _ => cases r; rfl
  | int _ => obtain ⟨t, rfl⟩ := r; rfl
  | str _ => obtain ⟨t, rfl⟩ := r; rfl
  | byt _ => obtain ⟨t, rfl⟩ := r; rfl
  | flt _ => obtain ⟨t, rfl⟩ := r; rfl
  | ref _ => cases r; rfl
  | ty _ => cases r; rfl
theorem RelV.inj {x y : V} {u : Value} (r : RelV x u) (q : RelV y u) : x = y := Option.some.inj (r.abs.symm.trans q.abs)
theorem Vals.inj : ∀ {xs ys : List V} {us : List Value}, Vals xs us → Vals ys us → xs = ys
  | _, _, _, .nil, .nil => rfl
  | _, _, _, .cons r t, .cons r' t' => by rw [r.inj r', Vals.inj t t']
section
variable {X : Cx} {pins : List (Addr × Obj)} {σ : St} {H : Hp} {s : Shared} {a : Addr} {xs ys : List V}
theorem SqL.of {K : PySem.W.Frag} (h : H a = some (.lst xs)) : SqL K H a xs := .inl (.inl h)
theorem SqT.of {K : PySem.W.Frag} (h : H a = some (.tup xs)) : SqT K H a xs := .inl (.inl h)
theorem Inv.list (I : Inv X pins σ H s) (h : SqL X.K H a xs) : ∃ its : List Value, Vals xs its ∧ PlainL s.heap a its.toArray ∧ xs.length ≤ sizeLine := by
  rcases h with h | ⟨o, its, n, hk, hc, hd, hs, hz, r⟩
  · obtain ⟨z, its, n, r, e⟩ := h.ok I.hok
    exact ⟨its, r, ⟨_, n, e, rfl, rfl, rfl⟩, z⟩
  · refine ⟨its.toList, r, ⟨o, n, I.kIn a o hk, hc, hd, by simpa using hs⟩, ?_⟩
    have e := r.length
    simp only [Array.length_toList] at e
    omega
theorem Inv.tuple (I : Inv X pins σ H s) (h : SqT X.K H a xs) : ∃ its : List Value, Vals xs its ∧ IsTup s.heap a its.toArray ∧ xs.length ≤ sizeLine := by
  rcases h with h | ⟨o, its, n, hk, hc, hs, hz, r⟩
  · obtain ⟨z, its, r, p⟩ := h.ok I.hok
    exact ⟨its, r, p.1, z⟩
  · refine ⟨its.toList, r, ⟨o, I.kIn a o hk, hc, n, by simpa using hs⟩, ?_⟩
    have e := r.length
    simp only [Array.length_toList] at e
    omega
theorem Inv.list_inj (I : Inv X pins σ H s) (h : SqL X.K H a xs) (h' : SqL X.K H a ys) : xs = ys := by
  obtain ⟨its, r, ⟨o, n, e, _, _, d⟩, _⟩ := I.list h
  obtain ⟨its', r', ⟨o', n', e', _, _, d'⟩, _⟩ := I.list h'
  rw [e] at e'; cases e'
  rw [d] at d'
  injection d' with d1 _
  have : its = its' := by simpa using congrArg Array.toList d1
  subst this
  exact r.inj r'
theorem Inv.tuple_inj (I : Inv X pins σ H s) (h : SqT X.K H a xs) (h' : SqT X.K H a ys) : xs = ys := by
  obtain ⟨its, r, ⟨o, e, _, n, d⟩, _⟩ := I.tuple h
  obtain ⟨its', r', ⟨o', e', _, n', d'⟩, _⟩ := I.tuple h'
  rw [e] at e'; cases e'
  rw [d] at d'
  injection d' with d1 _
  have : its = its' := by simpa using congrArg Array.toList d1
  subst this
  exact r.inj r'
end
abbrev Cx.wish (X : Cx) (E : Value → Shared → Prop) : Cx := { X with xe := E }
abbrev Cx.nox (X : Cx) : Cx := X.wish fun _ _ => False
theorem Cx.Ok.wish {X : Cx} (ok : X.Ok) (E : Value → Shared → Prop) : (X.wish E).Ok :=
  ⟨ok.mod, ok.kind, ok.glob, ok.blt, ok.above, ok.inj, ok.has, ok.cab, ok.hd, ok.frames, ok.stk, ok.exf, ok.bs, ok.bsz, ok.noex, ok.exfs, ok.funs, ok.frf⟩
theorem Cx.Ok.unwish {X : Cx} {E : Value → Shared → Prop} (ok : (X.wish E).Ok) : X.Ok :=
  ⟨ok.mod, ok.kind, ok.glob, ok.blt, ok.above, ok.inj, ok.has, ok.cab, ok.hd, ok.frames, ok.stk, ok.exf, ok.bs, ok.bsz, ok.noex, ok.exfs, ok.funs, ok.frf⟩
section
variable {X : Cx} {pins : List (Addr × Obj)} {σ : St} {H : Hp} {s : Shared} {E : Value → Shared → Prop}
theorem Inv.wish (I : Inv X pins σ H s) (E : Value → Shared → Prop) : Inv (X.wish E) pins σ H s := ⟨I.ok.wish E, I.os, I.bare, I.base, I.loc, I.cell, I.free, I.freeC, I.pin, I.hok, I.len⟩
theorem Inv.unwish (I : Inv (X.wish E) pins σ H s) : Inv X pins σ H s := ⟨I.ok.unwish, I.os, I.bare, I.base, I.loc, I.cell, I.free, I.freeC, I.pin, I.hok, I.len⟩
theorem SP.unwish {D : Ends} {f : Flow} {s' : Shared} (h : SP (X.wish E) pins D f s') : SP X pins D f s' := by
  cases f with
  | next => obtain ⟨σ', H', I, q⟩ := h; exact ⟨σ', H', I.unwish, q⟩
  | brk => obtain ⟨σ', H', I, q⟩ := h; exact ⟨σ', H', I.unwish, q⟩
  | cont => obtain ⟨σ', H', I, q⟩ := h; exact ⟨σ', H', I.unwish, q⟩
  | ret u => obtain ⟨v, σ', H', I, r, q⟩ := h; exact ⟨v, σ', H', I.unwish, r, q⟩
theorem PE.nox {e : Expr} {t : TE} (h : PE X.nox e t) : PE X e t := fun pins s σ H Q I hw =>
  wpAny_mono (h pins s σ H Q (I.wish _) hw) (fun _ _ ⟨v, H', I', r, q⟩ => ⟨v, H', I'.unwish, r, q⟩) fun _ _ z => False.elim z
theorem PT.nox {e : Expr} {t : TT} (h : PT X.nox e t) : PT X e t := fun pins s σ H Q I hw =>
  wpAny_mono (h pins s σ H Q (I.wish _) hw) (fun _ _ ⟨H', I', q⟩ => ⟨H', I'.unwish, q⟩) fun _ _ z => False.elim z
theorem PSs.nox {st : List Stmt} {t : TS} (h : PSs X.nox st t) : PSs X st t := fun pins s σ H D I hw =>
  wpAny_mono (h pins s σ H D (I.wish _) hw) (fun _ _ q => q.unwish) fun _ _ z => False.elim z
end
section
variable {X : Cx} {st : Stmt} {rest : List Stmt} {t u : TS} {e : Expr} {te : TE} {pos : Pos}
def tNext : TS := fun D σ H => D.nx σ H
def tSeq (t u : TS) : TS := fun D σ H => t { D with nx := u D } σ H
theorem pss_nil : PSs X [] tNext := fun _ _ σ H _ I h => wpAny_execs_nil ⟨σ, H, I, h⟩
theorem pss_cons (h1 : PS X st t) (h2 : PSs X rest u) : PSs X (st :: rest) (tSeq t u) := by
  intro pins s σ H D I h
  refine wpAny_execs_cons (thn (h1 pins s σ H { D with nx := u D } I h) fun f s1 q => ?_)
  cases f with
  | next =>
    obtain ⟨σ', H', I', q⟩ := q
    exact h2 pins s1 σ' H' D I' q
  | ret v => exact q
  | brk => exact q
  | cont => exact q
theorem pss_one (h1 : PS X st t) : PSs X [st] t := by
  intro pins s σ H D I h
  refine wpAny_execs_cons (thn (h1 pins s σ H D I h) fun f s1 q => ?_)
  cases f with
  | next => exact wpAny_execs_nil q
  | ret v => exact q
  | brk => exact q
  | cont => exact q
theorem Inv.quiet {pins : List (Addr × Obj)} {σ : St} {H : Hp} {s : Shared} (I : Inv X pins σ H s) : interactive X.env = false := by simp [interactive, I.ok.kind]
def tDrop (te : TE) : TS := fun D σ H => te σ H fun _ H1 => D.nx σ H1
theorem ps_expr (he : PE X e te) (hs : swapsWith e none pos.line X.env = pure false := by rfl) : PS X (.Expr e pos) (tDrop te) := by
  intro pins s σ H D I h
  exact wpAny_Expr_any (thn (he pins s σ H _ I h) fun v s1 ⟨x, H1, I1, r1, q1⟩ => ⟨σ, H1, I1, q1⟩) I.quiet hs
def tRet (te : TE) : TS := fun D σ H => te σ H D.rt
theorem ps_ret (he : PE X e te) : PS X (.Return (some e) pos) (tRet te) := by
  intro pins s σ H D I h
  exact wpAny_Return_some (thn (he pins s σ H _ I h) fun v s1 ⟨x, H1, I1, r1, q1⟩ => ⟨x, σ, H1, I1, r1, q1⟩)
def tIfS (c : TT) (t u : TS) : TS := fun D σ H => c σ H fun b H1 => if b = true then t D σ H1 else u D σ H1
theorem ps_if {c : Expr} {a b : List Stmt} {tc : TT} (hc : PT X c tc) (ha : PSs X a t) (hb : PSs X b u) : PS X (.If c a b pos) (tIfS tc t u) := by
  intro pins s σ H D I h
  refine wpAny_If (thn (hc pins s σ H _ I h) fun d s1 ⟨H1, I1, q1⟩ => ?_)
  cases d with
  | true => exact ha pins s1 σ H1 D I1 q1
  | false => exact hb pins s1 σ H1 D I1 q1
def tNever : TS := fun _ _ _ => False
theorem ps_never : PS X st tNever := fun _ _ _ _ _ _ h => h.elim
end
abbrev TG := V → St → Hp → (St → Hp → Prop) → Prop
abbrev TGs := List V → St → Hp → (St → Hp → Prop) → Prop
def PG (X : Cx) (target : Expr) (t : TG) : Prop :=
  ∀ (pins : List (Addr × Obj)) (s : Shared) (σ : St) (H : Hp) (v : V) (u : Value) (Q : St → Hp → Prop), Inv X pins σ H s → RelV v u → t v σ H Q →
    wpAny (model X.prog X.w) X.A (assign target X.env u) (fun _ s' => ∃ σ' H', Inv X pins σ' H' s' ∧ Q σ' H') X.xe s
def PGs (X : Cx) (ts : List Expr) (t : TGs) : Prop :=
  ∀ (pins : List (Addr × Obj)) (s : Shared) (σ : St) (H : Hp) (vs : List V) (us : List Value) (Q : St → Hp → Prop), Inv X pins σ H s → Vals vs us → t vs σ H Q →
    wpAny (model X.prog X.w) X.A (assignInOrder ((assignEach ts X.env).map (·.2)) us) (fun _ s' => ∃ σ' H', Inv X pins σ' H' s' ∧ Q σ' H') X.xe s
section
variable {X : Cx} {pos : Pos}
def gName (i : Nat) : TG := fun v σ H Q => Q (σ.set i (some v)) H
theorem pg_name {i : Nat} {x : Str} (hN : X.N.Nodup) (hi : X.N[i]? = some x) (hx : Loc X.env.scope x) (hf : X.fn x = true ∨ X.env.scope.names.lookup x = some .local := by first | exact .inl rfl | exact .inr rfl | assumption) : PG X (.Name x pos) (gName i) := by
  intro pins s σ H v u Q I r h
  exact wpAny_assign_Name (store_ok I hN hi hx r (fun s' I' => ⟨_, H, I', h⟩) hf)
def gNil : TGs := fun vs σ H Q => vs = [] ∧ Q σ H
def gCons (t : TG) (u : TGs) : TGs := fun vs σ H Q => ∃ v r, vs = v :: r ∧ t v σ H fun σ' H' => u r σ' H' Q
theorem pgs_nil : PGs X [] gNil := by
  intro pins s σ H vs us Q I r h
  obtain ⟨e, h⟩ := h
  subst e
  cases r
  exact assignInOrder_nil ⟨σ, H, I, h⟩
theorem pgs_cons {e : Expr} {es : List Expr} {t : TG} {u : TGs} (h1 : PG X e t) (h2 : PGs X es u)
    (hs : (assignEach (e :: es) X.env).map (·.2) = assign e X.env :: (assignEach es X.env).map (·.2) := by rfl) : PGs X (e :: es) (gCons t u) := by
  intro pins s σ H vs us Q I r h
  obtain ⟨v, vr, e1, h⟩ := h
  subst e1
  cases r with
  | cons r rr =>
    rw [hs]
    refine assignInOrder_cons (thn (h1 pins s σ H _ _ _ I r h) fun _ s1 ⟨σ1, H1, I1, q1⟩ => ?_)
    exact h2 pins s1 σ1 H1 _ _ Q I1 rr q1
def gTup (K : PySem.W.Frag) (n : Nat) (t : TGs) : TG := fun v σ H Q => ∃ a xs, v = .ref a ∧ SqT K H a xs ∧ xs.length = n ∧ t xs σ H Q
theorem pg_tup {es : List Expr} {k : Nat} {t : TGs} {n : Nat} (hc : X.calm = true) (h : PGs X es t)
    (hn : (assignEach es X.env).length = n := by rfl) (hst : (assignEach es X.env).findIdx? (·.1) = none := by rfl) : PG X (.Tuple es k pos) (gTup X.K n t) := by
  intro pins s σ H v u Q I r hw
  obtain ⟨a, xs, e1, hq, hl, hw⟩ := hw
  subst e1
  cases r
  obtain ⟨its, rv, ht, hz⟩ := I.tuple hq
  refine assign_Tuple_tuple (I.ok.hd hc) ht (by simp [hn, ← hl, rv.length]) hst fun h' hx => ?_
  have I1 : Inv X pins σ H { s with heap := h' } := I.kept (t' := s.toks) fun b o e => hx b o (Nat.ne_of_lt (Heap.lt_size e)) e
  exact h pins _ σ H xs _ Q I1 (by simpa using rv) hw
def tAsg (te : TE) (g : TG) : TS := fun D σ H => te σ H fun x H1 => g x σ H1 D.nx
theorem ps_set {i : Nat} {x : Str} {e : Expr} {te : TE} {pos' : Pos} (hN : X.N.Nodup) (hi : X.N[i]? = some x) (hx : Loc X.env.scope x) (he : PE X e te) (hs : swapsWith e (some (.Name x pos')) pos.line X.env = pure false := by rfl) (hf : X.fn x = true ∨ X.env.scope.names.lookup x = some .local := by first | exact .inl rfl | exact .inr rfl | assumption) :
    PS X (.Assign [.Name x pos'] e pos) (tAsg te (gName i)) := by
  intro pins s σ H D I h
  refine wpAny_Assign_Name (thn (he pins s σ H _ I h) fun v s1 ⟨y, H1, I1, r1, q1⟩ => ?_) hs
  exact store_ok I1 hN hi hx r1 (fun s2 I2 => ⟨_, H1, I2, q1⟩) hf
end
structure It where
  go : Nat → Hp → Prop
  yld : Nat → Hp → V → Hp → Prop
  stop : Nat → Hp → Prop
def FpOk (X : Cx) (pins : List (Addr × Obj)) (H : Hp) (b : Addr) : Prop :=
  H b = none ∧ b ≠ X.env.locals ∧ b ∉ X.fs ∧ (b ∈ X.ex ∨ X.s₀.heap.objs.size ≤ b) ∧ (∀ x c, X.env.cells.lookup x = some c → c ≠ b) ∧ ∀ p ∈ X.pn ++ pins, p.1 ≠ b
theorem Inv.fpOk {X : Cx} {pins : List (Addr × Obj)} {σ : St} {H H' : Hp} {s : Shared} {b : Addr} (I : Inv X pins σ H s) (hb : s.heap.objs.size ≤ b) (hn : H' b = none) : FpOk X pins H' b := by
  refine ⟨hn, Nat.ne_of_gt (Nat.lt_of_lt_of_le I.lt hb), I.nofs hb, .inr (Nat.le_trans I.sz hb), fun x c e z => ?_, fun p hp z => ?_⟩
  · obtain ⟨v, q⟩ := I.cell x c e
    exact absurd (Nat.lt_of_lt_of_le q.lt (by rw [z]; exact hb)) (Nat.lt_irrefl _)
  · exact absurd (Nat.lt_of_lt_of_le (Heap.lt_size (I.pin p hp).1) (by rw [z]; exact hb)) (Nat.lt_irrefl _)
structure Turn (P : Program) (w : World) (K : PySem.W.Frag) (tg : Expr) (J : It) (fp : List Addr) (it : Addr) (tn : Nat → Heap → Prop) : Prop where
  mem : it ∈ fp
  obj : ∀ i h, tn i h → ∀ b ∈ fp, ∃ o, h.get? b = some o ∧ ∀ v, o.data ≠ .cell v
  keep : ∀ i h h', tn i h → (∀ b ∈ fp, ∀ o, h.get? b = some o → h'.get? b = some o) → tn i h'
  item : ∀ (X : Cx), X.prog = P → X.w = w → X.K = K → X.calm = true → ∀ (i : Nat) (pins : List (Addr × Obj)) (s : Shared) (σ : St) (H : Hp) (E : Value → Shared → Prop), Inv X pins σ H s → (∀ b ∈ fp, FpOk X pins H b) → tn i s.heap → J.go i H →
    wpAny (model P w) X.A (pyNext (.ref it)) (fun r s1 => ∃ u, r = some u ∧
      wpAny (model P w) X.A (letOwnedTupleGo tg (.ref it) u) (fun _ s2 => ∃ x H', Inv X pins σ H' s2 ∧ RelV x u ∧ J.yld i H x H' ∧ tn (i + 1) s2.heap ∧ ∀ b ∈ fp, H' b = none) E s1) E s
  done : ∀ (X : Cx), X.prog = P → X.w = w → X.K = K → X.calm = true → ∀ (i : Nat) (pins : List (Addr × Obj)) (s : Shared) (σ : St) (H : Hp) (E : Value → Shared → Prop), Inv X pins σ H s → (∀ b ∈ fp, FpOk X pins H b) → tn i s.heap → J.stop i H →
    wpAny (model P w) X.A (pyNext (.ref it)) (fun r s1 => r = none ∧ Inv X pins σ H s1) E s
  self : ∀ (A : Around) (i : Nat) (s : Shared) (Q : Value → Shared → Prop) (E : Value → Shared → Prop), tn i s.heap → Q (.ref it) s → wpAny (model P w) A (pyIter (.ref it)) Q E s
abbrev TI := St → Hp → (It → Hp → Prop) → Prop
def PIE (X : Cx) (pins : List (Addr × Obj)) (σ : St) (tg : Expr) (R : It → Hp → Prop) (itv : Value) (s2 : Shared) : Prop :=
  ∃ (it : Addr) (fp : List Addr) (tn : Nat → Heap → Prop) (J : It) (H' : Hp), itv = .ref it ∧ Inv X pins σ H' s2 ∧ Turn X.prog X.w X.K tg J fp it tn ∧ tn 0 s2.heap ∧ (∀ b ∈ fp, FpOk X pins H' b) ∧ R J H'
def PI (X : Cx) (tg iter : Expr) (wi : TI) : Prop :=
  ∀ (pins : List (Addr × Obj)) (s : Shared) (σ : St) (H : Hp) (R : It → Hp → Prop), Inv X pins σ H s → wi σ H R →
    wpAny (model X.prog X.w) X.A (eval iter X.env) (fun v s1 => wpAny (model X.prog X.w) X.A (pyIter v) (PIE X pins σ tg R) X.xe s1) X.xe s
theorem go_of {M : Model} {A : Around} {E : Value → Shared → Prop} {s : Shared} {tg : Expr} {it : Addr} {u : Value} {o : Obj} {n : String} {vs : Array Value} {Q : Unit → Shared → Prop} (ho : s.heap.get? it = some o) (hc : o.cls = .type n) (hd : o.data = .fields vs)
    (hn : ["enumerate", "zip", "dict_itemiterator", "dict_reverseitemiterator", "odict_iterator", "itertools.zip_longest", "itertools.pairwise"].contains n = false) (hQ : Q () s) : wpAny M A (letOwnedTupleGo tg (.ref it) u) Q E s := by
  unfold letOwnedTupleGo
  cases tg <;> first
    | exact wpAny_pure hQ
    | (cases u <;> first
        | exact wpAny_pure hQ
        | (refine wpAny_bind (wpAny_load ho ?_)
           rw [hc, hd]
           show wpAny M A (if (["enumerate", "zip", "dict_itemiterator", "dict_reverseitemiterator", "odict_iterator", "itertools.zip_longest", "itertools.pairwise"].contains n && vs[0]? == some (rawInt _)) = true then _ else _) Q E s
           rw [if_neg (by intro h; rw [hn, Bool.false_and] at h; cases h)]
           exact wpAny_pure hQ))
def Itl (K : PySem.W.Frag) (a : Addr) : It :=
  ⟨fun i H => ∃ xs x, SqL K H a xs ∧ xs[i]? = some x, fun i H x H' => H' = H ∧ ∀ xs, SqL K H a xs → xs[i]? = some x, fun i H => ∃ xs, SqL K H a xs ∧ xs.length ≤ i⟩
def Itt (K : PySem.W.Frag) (a : Addr) : It :=
  ⟨fun i H => ∃ xs x, SqT K H a xs ∧ xs[i]? = some x, fun i H x H' => H' = H ∧ ∀ xs, SqT K H a xs → xs[i]? = some x, fun i H => ∃ xs, SqT K H a xs ∧ xs.length ≤ i⟩
def Itr (lo : Int) (n : Nat) : It := ⟨fun i _ => i < n, fun i H x H' => H' = H ∧ x = .int (lo + i), fun i _ => n ≤ i⟩
theorem turn_list {P : Program} {w : World} {K : PySem.W.Frag} {tg : Expr} (a it : Addr) : Turn P w K tg (Itl K a) [it] it (fun i h => h.IsListIter it a i) where
  mem := by simp
  obj := fun i h st b hb => by
    have e : b = it := by simpa using hb
    subst e
    obtain ⟨o, e, c, d⟩ := st
    exact ⟨o, e, fun v z => by rw [d] at z; cases z⟩
  keep := fun i h h' st k => st.at fun o e => k it (by simp) o e
  item := by
    intro X hP hw hK hc i pins s σ H E I hf st hg
    subst hP hw hK
    obtain ⟨xs, x, hq, hx⟩ := hg
    obtain ⟨its, rv, p, hz⟩ := I.list hq
    obtain ⟨u, hu, ru⟩ := rv.get hx
    obtain ⟨f0, f1, f2, f3, f4, f5⟩ := hf it (by simp)
    refine wpAny_pyNext_list_item st p.isList (x := u) (by simpa using hu) fun h' st' sb => ?_
    have I1 : Inv X pins σ H { s with heap := h' } := I.turned (t' := s.toks) (fun b o hb e => (sb.2 b hb).trans e) f0 f1 f3 f4 f5
    obtain ⟨o, e, c, d⟩ := id st'
    exact ⟨u, rfl, go_of (s := { s with heap := h' }) e c d (by decide) ⟨x, H, I1, ru, ⟨rfl, fun ys hy => by rw [I.list_inj hy hq]; exact hx⟩, st', fun b hb => (hf b hb).1⟩⟩
  done := by
    intro X hP hw hK hc i pins s σ H E I hf st hg
    subst hP hw hK
    obtain ⟨xs, hq, hx⟩ := hg
    obtain ⟨its, rv, p, hz⟩ := I.list hq
    obtain ⟨f0, f1, f2, f3, f4, f5⟩ := hf it (by simp)
    have hl := rv.length
    exact wpAny_pyNext_list_end (I.ok.hd hc) st p.isList (by simp; omega) fun h' eb => ⟨rfl, I.turned (t' := s.toks) (fun b o hb e => eb b o hb e) f0 f1 f3 f4 f5⟩
  self := fun _ _ _ _ _ st h => wpAny_pyIter_listiter st h
theorem turn_tuple {P : Program} {w : World} {K : PySem.W.Frag} {tg : Expr} (a it : Addr) : Turn P w K tg (Itt K a) [it] it (fun i h => h.IsTupleIter it a i) where
  mem := by simp
  obj := fun i h st b hb => by
    have e : b = it := by simpa using hb
    subst e
    obtain ⟨o, e, c, d⟩ := st
    exact ⟨o, e, fun v z => by rw [d] at z; cases z⟩
  keep := fun i h h' st k => st.at fun o e => k it (by simp) o e
  item := by
    intro X hP hw hK hc i pins s σ H E I hf st hg
    subst hP hw hK
    obtain ⟨xs, x, hq, hx⟩ := hg
    obtain ⟨its, rv, p, hz⟩ := I.tuple hq
    obtain ⟨u, hu, ru⟩ := rv.get hx
    obtain ⟨f0, f1, f2, f3, f4, f5⟩ := hf it (by simp)
    refine wpAny_pyNext_tuple_item st (show s.heap.IsTuple a its.toArray from p) (x := u) (by simpa using hu) fun h' st' sb => ?_
    have I1 : Inv X pins σ H { s with heap := h' } := I.turned (t' := s.toks) (fun b o hb e => (sb.2 b hb).trans e) f0 f1 f3 f4 f5
    obtain ⟨o, e, c, d⟩ := id st'
    exact ⟨u, rfl, go_of (s := { s with heap := h' }) e c d (by decide) ⟨x, H, I1, ru, ⟨rfl, fun ys hy => by rw [I.tuple_inj hy hq]; exact hx⟩, st', fun b hb => (hf b hb).1⟩⟩
  done := by
    intro X hP hw hK hc i pins s σ H E I hf st hg
    subst hP hw hK
    obtain ⟨xs, hq, hx⟩ := hg
    obtain ⟨its, rv, p, hz⟩ := I.tuple hq
    obtain ⟨f0, f1, f2, f3, f4, f5⟩ := hf it (by simp)
    have hl := rv.length
    exact wpAny_pyNext_tuple_end (I.ok.hd hc) st (show s.heap.IsTuple a its.toArray from p) (by simp; omega) fun h' eb => ⟨rfl, I.turned (t' := s.toks) (fun b o hb e => eb b o hb e) f0 f1 f3 f4 f5⟩
  self := fun _ _ _ _ _ st h => wpAny_pyIter_tupleiter st h
theorem turn_range {P : Program} {w : World} {K : PySem.W.Frag} {tg : Expr} (it : Addr) (lo : Int) (n : Nat) : Turn P w K tg (Itr lo n) [it] it (fun i h => IsRangeIter h it (lo + (i : Nat) * 1) ((n : Int) - (i : Nat)) 1) where
  mem := by simp
  obj := fun i h st b hb => by
    have e : b = it := by simpa using hb
    subst e
    exact ⟨_, st, fun v z => by
      have z' : Data.fields _ = Data.cell v := z
      cases z'⟩
  keep := fun i h h' st k => k it (by simp) _ st
  item := by
    intro X hP hw hK hc i pins s σ H E I hf st hg
    subst hP hw hK
    obtain ⟨f0, f1, f2, f3, f4, f5⟩ := hf it (by simp)
    have W := Walks.range (prog := X.prog) (w := X.w) (I.ok.hd hc) it lo 1 n
    refine W.item i s _ _ hg st fun v h' tk hv st' kk => ?_
    obtain ⟨t, rfl⟩ := hv
    have I1 : Inv X pins σ H { s with heap := h', toks := tk } := I.turned (fun b o hb e => kk b o (by simpa using hb) e) f0 f1 f3 f4 f5
    refine ⟨_, rfl, go_of (s := { s with heap := h', toks := tk }) (n := "range_iterator") st' rfl rfl (by decide) ⟨.int (lo + i), H, I1, ⟨t, ?_⟩, ⟨rfl, rfl⟩, st', fun b hb => (hf b hb).1⟩⟩
    rw [Int.mul_one]
  done := by
    intro X hP hw hK hc i pins s σ H E I hf st hg
    subst hP hw hK
    obtain ⟨f0, f1, f2, f3, f4, f5⟩ := hf it (by simp)
    exact wpAny_pyNext_range_end (I.ok.hd hc) st (by have : n ≤ i := hg; omega) fun h' eb => ⟨rfl, I.turned (t' := s.toks) (fun b o hb e => eb b o hb e) f0 f1 f3 f4 f5⟩
  self := fun _ _ _ _ _ st h => wpAny_pyIter_rangeiter st h
section
variable {X : Cx} {tg : Expr}
def iList (K : PySem.W.Frag) (tl : TE) : TI := fun σ H R => tl σ H fun x H1 => ∃ a, x = .ref a ∧ (∃ xs, SqL K H1 a xs) ∧ R (Itl K a) H1
def iTup (K : PySem.W.Frag) (tl : TE) : TI := fun σ H R => tl σ H fun x H1 => ∃ a, x = .ref a ∧ (∃ xs, SqT K H1 a xs) ∧ R (Itt K a) H1
theorem pi_list {l : Expr} {tl : TE} (hl : PE X l tl) : PI X tg l (iList X.K tl) := by
  intro pins s σ H R I h
  refine thn (hl pins s σ H _ I h) fun v s1 ⟨x, H1, I1, r1, q1⟩ => ?_
  obtain ⟨a, e, ⟨xs, hq⟩, q⟩ := q1
  subst e
  cases r1
  obtain ⟨its, rv, p, hz⟩ := I1.list hq
  refine wpAny_pyIter_list p.isList ?_
  refine ⟨s1.heap.objs.size, [s1.heap.objs.size], _, _, H1, rfl, I1.kept (t' := s1.toks) fun b o e => Heap.get?_push_of_some _ e, turn_list a _, ⟨_, Heap.get?_push_size _ rfl, rfl, rfl⟩, fun b hb => ?_, q⟩
  have e : b = s1.heap.objs.size := by simpa using hb
  subst e
  exact I1.fpOk (Nat.le_refl _) (I1.hok.fresh (Nat.le_refl _))
theorem pi_tup {l : Expr} {tl : TE} (hl : PE X l tl) : PI X tg l (iTup X.K tl) := by
  intro pins s σ H R I h
  refine thn (hl pins s σ H _ I h) fun v s1 ⟨x, H1, I1, r1, q1⟩ => ?_
  obtain ⟨a, e, ⟨xs, hq⟩, q⟩ := q1
  subst e
  cases r1
  obtain ⟨its, rv, p, hz⟩ := I1.tuple hq
  refine wpAny_pyIter_tuple (show s1.heap.IsTuple a its.toArray from p) ?_
  refine ⟨s1.heap.objs.size, [s1.heap.objs.size], _, _, H1, rfl, I1.kept (t' := s1.toks) fun b o e => Heap.get?_push_of_some _ e, turn_tuple a _, ⟨_, Heap.get?_push_size _ rfl, rfl, rfl⟩, fun b hb => ?_, q⟩
  have e : b = s1.heap.objs.size := by simpa using hb
  subst e
  exact I1.fpOk (Nat.le_refl _) (I1.hok.fresh (Nat.le_refl _))
theorem range_it {pins : List (Addr × Obj)} {σ : St} {H : Hp} {s : Shared} {R : It → Hp → Prop} {E : Value → Shared → Prop} {lo hi : Int} {t u v : Tok} {tk : Nat} (I : Inv X pins σ H s) (h1 : -(2 ^ 62) ≤ lo) (h2 : lo < 2 ^ 62) (h3 : -(2 ^ 62) ≤ hi) (h4 : hi < 2 ^ 62)
    (q : R (Itr lo (hi - lo).toNat) H) : wpAny (model X.prog X.w) X.A (pyIter (.ref s.heap.objs.size)) (PIE X pins σ tg R) E { s with heap := s.heap.push { cls := .type "range", data := .fields #[.int lo t, .int hi u, .int 1 v] }, toks := tk } := by
  refine wpAny_pyIter_range (IsRange.new ..) (small_one h1 h2 h3 h4) ?_
  have I1 : Inv X pins σ H { s with heap := s.heap.push { cls := .type "range", data := .fields #[.int lo t, .int hi u, .int 1 v] }, toks := tk } := I.kept fun b o e => Heap.get?_push_of_some _ e
  refine ⟨(s.heap.push { cls := .type "range", data := .fields #[.int lo t, .int hi u, .int 1 v] }).objs.size, [(s.heap.push { cls := .type "range", data := .fields #[.int lo t, .int hi u, .int 1 v] }).objs.size], _, _, H, rfl,
    I1.kept (t' := tk) fun b o e => Heap.get?_push_of_some _ e, turn_range _ lo (hi - lo).toNat, ?_, fun b hb => ?_, q⟩
  · have e1 : lo + ((0 : Nat) : Int) * 1 = lo := by simp
    have e2 : (((hi - lo).toNat : Nat) : Int) - ((0 : Nat) : Int) = Builtin.Range.rangeSize lo hi 1 := by rw [rangeSize_one]; split <;> omega
    show IsRangeIter _ _ (lo + ((0 : Nat) : Int) * 1) ((((hi - lo).toNat : Nat) : Int) - ((0 : Nat) : Int)) 1
    rw [e1, e2]
    exact Heap.get?_push_size _ rfl
  · have e : b = (s.heap.push { cls := .type "range", data := .fields #[.int lo t, .int hi u, .int 1 v] }).objs.size := by simpa using hb
    subst e
    exact I1.fpOk (Nat.le_refl _) (I1.hok.fresh (Nat.le_refl _))
def iRng1 (ta : TA) : TI := fun σ H R => ta σ H fun vs H1 => ∃ j : Int, vs = [.int j] ∧ -(2 ^ 62) ≤ j ∧ j < 2 ^ 62 ∧ R (Itr 0 j.toNat) H1
theorem pi_range1 {a : Expr} {ta : TA} {p pos : Pos} (hg : Gl X "range") (hm : X.mg "range" = none) (ha : PA X [a] ta) (hs : starEach [a] X.env = [(false, eval a X.env)] := by rfl) : PI X tg (.Call (.Name "range" p) [a] [] pos) (iRng1 ta) := by
  intro pins s σ H R I h
  refine Call_ (ld_blt I hg hm boot_range (PyProof.Rows.callWith_type1 (thn (ha pos pins s σ H _ I h) fun us s1 ⟨vs, H1, I1, r1, q1⟩ => ?_) hs rfl))
  obtain ⟨j, e, q1, q2, q⟩ := q1
  subst e
  cases r1 with
  | cons r rr =>
    cases rr
    obtain ⟨t, rfl⟩ := r
    exact call_range_1 (range_it I1 (by omega) (by omega) q1 q2 (by simpa using q))
def tFor (wi : TI) (g : TG) (tb : TS) : TS := fun D σ H => wi σ H fun J H1 => ∃ W : Nat → Nat → St → Hp → Prop, (∃ m, W 0 m σ H1) ∧ ∀ i m σ H, W i m σ H →
  (J.stop i H ∧ D.nx σ H) ∨ (J.go i H ∧ ∃ N : St → Hp → Prop, (∀ σ' H', N σ' H' → ∃ m', m' < m ∧ W (i + 1) m' σ' H') ∧ ∀ x H', J.yld i H x H' → g x σ H' fun σ2 H2 => tb { D with nx := N, ct := N, bk := D.nx } σ2 H2)
def pinsAt (fp : List Addr) (h : Heap) : List (Addr × Obj) := fp.filterMap fun b => (h.get? b).map fun o => (b, o)
theorem mem_pinsAt {fp : List Addr} {h : Heap} {b : Addr} {o : Obj} (hb : b ∈ fp) (e : h.get? b = some o) : (b, o) ∈ pinsAt fp h := List.mem_filterMap.mpr ⟨b, hb, by rw [e]; rfl⟩
theorem of_pinsAt {fp : List Addr} {h : Heap} {p : Addr × Obj} (hp : p ∈ pinsAt fp h) : p.1 ∈ fp ∧ h.get? p.1 = some p.2 := by
  obtain ⟨b, hb, e⟩ := List.mem_filterMap.mp hp
  cases q : h.get? b with
  | none => rw [q] at e; cases e
  | some o =>
    rw [q] at e
    have e' : (b, o) = p := Option.some.inj e
    subst e'
    exact ⟨hb, q⟩
theorem Inv.pinned {pins : List (Addr × Obj)} {σ : St} {H : Hp} {s : Shared} {fp : List Addr} (I : Inv X pins σ H s) (hf : ∀ b ∈ fp, FpOk X pins H b) (ho : ∀ b ∈ fp, ∃ o, s.heap.get? b = some o ∧ ∀ v, o.data ≠ .cell v) : Inv X (pins ++ pinsAt fp s.heap) σ H s :=
  I.pins_of fun p hp => (List.mem_append.mp hp).elim (fun z => I.pin p (List.mem_append_right _ z)) fun z => by
    obtain ⟨hb, e⟩ := of_pinsAt z
    obtain ⟨f0, f1, f2, _⟩ := hf p.1 hb
    obtain ⟨o, e', d⟩ := ho p.1 hb
    rw [e] at e'; cases e'
    exact ⟨e, f0, f1, f2, d⟩
theorem Inv.unpinned {pins pl : List (Addr × Obj)} {σ : St} {H : Hp} {s : Shared} (I : Inv X (pins ++ pl) σ H s) : Inv X pins σ H s := I.pins_of fun p hp => I.pin p (List.mem_append_right _ (List.mem_append_left _ hp))
theorem ps_for {iter : Expr} {body : List Stmt} {wi : TI} {g : TG} {tb : TS} {pos : Pos} (hp : PassesOwn (model X.prog X.w) X.A X.env X.xe) (hc : X.calm = true) (hi : PI X tg iter wi) (hg : PG X tg g) (hb : PSs X body tb)
    (hs : ∀ x, foldedSetIterable iter X.env x = pure x := by intro _; rfl) : PS X (.For tg iter body [] pos) (tFor wi g tb) := by
  intro pins s σ H D I h
  refine wpAny_For (thn (hi pins s σ H _ I h) fun v s1 h1 => thn h1 fun itv s2 h2 => ?_) hs
  obtain ⟨it, fp, tn, J, H2, e, I2, T, st2, f2, W, ⟨m0, w0⟩, turn⟩ := h2
  subst e
  have stat : ∀ {H' : Hp}, (∀ b ∈ fp, H' b = none) → ∀ b ∈ fp, FpOk X pins H' b := fun hn b hb => ⟨hn b hb, (f2 b hb).2⟩
  refine codeAny_forLoop_any (fun n s' => ∃ i σ' H', Inv X pins σ' H' s' ∧ tn i s'.heap ∧ (∀ b ∈ fp, H' b = none) ∧ W i n σ' H') ?_ m0 ⟨0, σ, H2, I2, st2, fun b hb => (f2 b hb).1, w0⟩
  rintro n s3 ⟨i, σ3, H3, I3, st3, fr3, w3⟩
  rcases turn i n σ3 H3 w3 with ⟨stop, qn⟩ | ⟨go, N, hN, step⟩
  · refine wpAny_passesOwn hp (thn (T.done X rfl rfl rfl hc i pins s3 σ3 H3 X.xe I3 (stat fr3) st3 stop) fun r s4 ⟨hr, I4⟩ => ?_)
    subst hr
    exact wpAny_execs_nil ⟨σ3, H3, I4, qn⟩
  · refine wpAny_passesOwn hp (thn (T.item X rfl rfl rfl hc i pins s3 σ3 H3 X.xe I3 (stat fr3) st3 go) fun r s4 ⟨u, hr, h4⟩ => ?_)
    subst hr
    refine wpAny_passesOwn hp (thn h4 fun _ s5 ⟨x, H5, I5, r5, y5, st5, fr5⟩ => ?_)
    have I5' := I5.pinned (stat fr5) (T.obj _ _ st5)
    refine wpAny_passesOwn hp (thn (hg _ s5 σ3 H5 x u _ I5' r5 (step x H5 y5)) fun _ s6 ⟨σ6, H6, I6, q6⟩ => ?_)
    refine wpAny_passesOwn hp (thn (hb _ s6 σ6 H6 _ I6 q6) fun f s7 q7 => ?_)
    have again : ∀ {σ7 : St} {H7 : Hp}, Inv X (pins ++ pinsAt fp s5.heap) σ7 H7 s7 → N σ7 H7 → ∃ m, m < n ∧ ∃ i σ' H', Inv X pins σ' H' s7 ∧ tn i s7.heap ∧ (∀ b ∈ fp, H' b = none) ∧ W i m σ' H' := fun {σ7 H7} I7 n7 => by
      obtain ⟨m', hm, w7⟩ := hN σ7 H7 n7
      refine ⟨m', hm, i + 1, σ7, H7, I7.unpinned, T.keep _ _ _ st5 fun b hb o e => (I7.pin (b, o) (List.mem_append_right _ (List.mem_append_right _ (mem_pinsAt hb e)))).1, fun b hb => ?_, w7⟩
      obtain ⟨o, e, d⟩ := T.obj _ _ st5 b hb
      exact (I7.pin (b, o) (List.mem_append_right _ (List.mem_append_right _ (mem_pinsAt hb e)))).2.1
    cases f with
    | next => obtain ⟨σ7, H7, I7, n7⟩ := q7; exact again I7 n7
    | cont => obtain ⟨σ7, H7, I7, n7⟩ := q7; exact again I7 n7
    | brk => obtain ⟨σ7, H7, I7, q7⟩ := q7; exact ⟨σ7, H7, I7.unpinned, q7⟩
    | ret v => obtain ⟨x7, σ7, H7, I7, r7, q7⟩ := q7; exact ⟨x7, σ7, H7, I7.unpinned, r7, q7⟩
end
theorem for_list {K : PySem.W.Frag} {a : Addr} {xs : List V} {g : TG} {tb : TS} {D : Ends} {σ : St} {H : Hp} (Pv : Nat → St → Hp → Prop) (h0 : Pv 0 σ H) (hl : ∀ i σ H, i ≤ xs.length → Pv i σ H → SqL K H a xs)
    (hs : ∀ i x σ H, xs[i]? = some x → Pv i σ H → g x σ H fun σ2 H2 => tb { D with nx := Pv (i + 1), ct := Pv (i + 1), bk := D.nx } σ2 H2) (hd : ∀ σ H, Pv xs.length σ H → D.nx σ H) :
    ∃ W : Nat → Nat → St → Hp → Prop, (∃ m, W 0 m σ H) ∧ ∀ i m σ H, W i m σ H →
      ((Itl K a).stop i H ∧ D.nx σ H) ∨ ((Itl K a).go i H ∧ ∃ N : St → Hp → Prop, (∀ σ' H', N σ' H' → ∃ m', m' < m ∧ W (i + 1) m' σ' H') ∧ ∀ x H', (Itl K a).yld i H x H' → g x σ H' fun σ2 H2 => tb { D with nx := N, ct := N, bk := D.nx } σ2 H2) := by
  refine ⟨fun i m σ H => m = xs.length - i ∧ i ≤ xs.length ∧ Pv i σ H, ⟨xs.length, by simp, Nat.zero_le _, h0⟩, ?_⟩
  rintro i m σ H ⟨rfl, hi, p⟩
  have q := hl i σ H hi p
  by_cases hlt : i < xs.length
  · refine .inr ⟨⟨xs, xs[i], q, by simp [hlt]⟩, Pv (i + 1), fun σ' H' p' => ⟨xs.length - (i + 1), by omega, rfl, hlt, p'⟩, fun x H' y => ?_⟩
    obtain ⟨e, y⟩ := y
    subst e
    exact hs i x σ _ (y xs q) p
  · have e : i = xs.length := by omega
    subst e
    exact .inl ⟨⟨xs, q, Nat.le_refl _⟩, hd σ H p⟩
theorem for_range {lo : Int} {n : Nat} {g : TG} {tb : TS} {D : Ends} {σ : St} {H : Hp} (Pv : Nat → St → Hp → Prop) (h0 : Pv 0 σ H)
    (hs : ∀ i σ H, i < n → Pv i σ H → g (.int (lo + i)) σ H fun σ2 H2 => tb { D with nx := Pv (i + 1), ct := Pv (i + 1), bk := D.nx } σ2 H2) (hd : ∀ σ H, Pv n σ H → D.nx σ H) :
    ∃ W : Nat → Nat → St → Hp → Prop, (∃ m, W 0 m σ H) ∧ ∀ i m σ H, W i m σ H →
      ((Itr lo n).stop i H ∧ D.nx σ H) ∨ ((Itr lo n).go i H ∧ ∃ N : St → Hp → Prop, (∀ σ' H', N σ' H' → ∃ m', m' < m ∧ W (i + 1) m' σ' H') ∧ ∀ x H', (Itr lo n).yld i H x H' → g x σ H' fun σ2 H2 => tb { D with nx := N, ct := N, bk := D.nx } σ2 H2) := by
  refine ⟨fun i m σ H => m = n - i ∧ i ≤ n ∧ Pv i σ H, ⟨n, by simp, Nat.zero_le _, h0⟩, ?_⟩
  rintro i m σ H ⟨rfl, hi, p⟩
  by_cases hlt : i < n
  · refine .inr ⟨hlt, Pv (i + 1), fun σ' H' p' => ⟨n - (i + 1), by omega, rfl, hlt, p'⟩, fun x H' y => ?_⟩
    obtain ⟨e, y⟩ := y
    subst e y
    exact hs i σ _ hlt p
  · have e : i = n := by omega
    subst e
    exact .inl ⟨Nat.le_refl _, hd σ H p⟩
abbrev R2 := V → V → Hp → VK → Prop
def OpR (X : Cx) (f : Value → Value → Sem Value) (r : R2) : Prop :=
  ∀ (pins : List (Addr × Obj)) (s : Shared) (σ : St) (H : Hp) (x y : V) (v u : Value) (Q : VK), Inv X pins σ H s → RelV x v → RelV y u → r x y H Q →
    wpAny (model X.prog X.w) X.A (f v u) (EP X pins σ Q) X.xe s
def UnR (X : Cx) (f : Value → Sem Value) (r : V → Hp → VK → Prop) : Prop :=
  ∀ (pins : List (Addr × Obj)) (s : Shared) (σ : St) (H : Hp) (x : V) (v : Value) (Q : VK), Inv X pins σ H s → RelV x v → r x H Q →
    wpAny (model X.prog X.w) X.A (f v) (EP X pins σ Q) X.xe s
def CallR (X : Cx) (f : Value) (r : List V → Hp → VK → Prop) : Prop :=
  ∀ (pins : List (Addr × Obj)) (s : Shared) (σ : St) (H : Hp) (xs : List V) (us : List Value) (Q : VK), Inv X pins σ H s → Vals xs us → r xs H Q →
    wpAny (model X.prog X.w) X.A (call f us) (EP X pins σ Q) X.xe s
def TruR (X : Cx) (r : V → Hp → (Bool → Hp → Prop) → Prop) : Prop :=
  ∀ (pins : List (Addr × Obj)) (s : Shared) (σ : St) (H : Hp) (x : V) (v : Value) (Q : Bool → Hp → Prop), Inv X pins σ H s → RelV x v → r x H Q →
    wpAny (model X.prog X.w) X.A (truthy v) (TP X pins σ Q) X.xe s
def tOp (r : R2) (ta tb : TE) : TE := fun σ H Q => ta σ H fun x H1 => tb σ H1 fun y H2 => r x y H2 Q
def tUn (r : V → Hp → VK → Prop) (ta : TE) : TE := fun σ H Q => ta σ H fun x H1 => r x H1 Q
def rI (C : Int → Int → Prop) (g : Int → Int → V) : R2 := fun x y H Q => ∃ i j, x = .int i ∧ y = .int j ∧ C i j ∧ Q (g i j) H
def rI0 (g : Int → Int → V) : R2 := fun x y H Q => ∃ i j, x = .int i ∧ y = .int j ∧ Q (g i j) H
def rU (g : Int → V) : V → Hp → VK → Prop := fun x H Q => ∃ i, x = .int i ∧ Q (g i) H
section
variable {X : Cx} {a b c : Expr} {ta tb tc : TE} {pos : Pos}
theorem binT (ha : PE X a ta) (hb : PE X b tb) {pins : List (Addr × Obj)} {s : Shared} {σ : St} {H : Hp} {R : V → V → Hp → Prop} (I : Inv X pins σ H s)
    (h : ta σ H fun x H1 => tb σ H1 fun y H2 => R x y H2) {Q : Value → Shared → Prop} {f : Value → Value → Sem Value}
    (hf : ∀ v u s2 x y H2, Inv X pins σ H2 s2 → RelV x v → RelV y u → R x y H2 → wpAny (model X.prog X.w) X.A (f v u) Q X.xe s2) :
    wpAny (model X.prog X.w) X.A (eval a X.env) (fun v s₁ => wpAny (model X.prog X.w) X.A (eval b X.env) (fun u s₂ => wpAny (model X.prog X.w) X.A (f v u) Q X.xe s₂) X.xe s₁) X.xe s := by
  refine thn (ha pins s σ H _ I h) fun v s1 ⟨x, H1, I1, r1, q1⟩ => ?_
  refine thn (hb pins s1 σ H1 _ I1 q1) fun u s2 ⟨y, H2, I2, r2, q2⟩ => ?_
  exact hf v u s2 x y H2 I2 r1 r2 q2
theorem pe_op {op : Operator} {r : R2} (ho : OpR X (binaryOp op) r) (ha : PE X a ta) (hb : PE X b tb) : PE X (.BinOp a op b pos) (tOp r ta tb) := by
  intro pins s σ H Q I h
  exact wpAny_BinOp (binT ha hb I h fun v u s2 x y H2 I2 rx ry q => ho pins s2 σ H2 x y v u Q I2 rx ry q)
theorem pe_un {op : UnaryOp} {r : V → Hp → VK → Prop} (ho : UnR X (unaryOp op) r) (ha : PE X a ta) : PE X (.UnaryOp op a pos) (tUn r ta) := by
  intro pins s σ H Q I h
  exact UnaryOp_ (thn (ha pins s σ H _ I h) fun v s1 ⟨x, H1, I1, r1, q1⟩ => ho pins s1 σ H1 x v Q I1 r1 q1)
theorem opI {f : Value → Value → Sem Value} {C : Int → Int → Prop} {g : Int → Int → Int}
    (rule : ∀ (i j : Int) (t u : Tok) (s : Shared) (Q : Value → Shared → Prop) (E : Value → Shared → Prop), C i j → Q (.int (g i j) s.toks) { s with toks := s.toks + 1 } → wpAny (model X.prog X.w) X.A (f (.int i t) (.int j u)) Q E s) :
    OpR X f (rI C fun i j => .int (g i j)) := by
  intro pins s σ H x y v u Q I rx ry h
  obtain ⟨i, j, rfl, rfl, hc, q⟩ := h
  obtain ⟨t, rfl⟩ := rx
  obtain ⟨t', rfl⟩ := ry
  exact rule i j t t' s _ _ hc ⟨.int (g i j), H, I.tok _, ⟨_, rfl⟩, q⟩
theorem opI0 {f : Value → Value → Sem Value} {g : Int → Int → Int}
    (rule : ∀ (i j : Int) (t u : Tok) (s : Shared) (Q : Value → Shared → Prop) (E : Value → Shared → Prop), Q (.int (g i j) s.toks) { s with toks := s.toks + 1 } → wpAny (model X.prog X.w) X.A (f (.int i t) (.int j u)) Q E s) :
    OpR X f (rI0 fun i j => .int (g i j)) := by
  intro pins s σ H x y v u Q I rx ry h
  obtain ⟨i, j, rfl, rfl, q⟩ := h
  obtain ⟨t, rfl⟩ := rx
  obtain ⟨t', rfl⟩ := ry
  exact rule i j t t' s _ _ ⟨.int (g i j), H, I.tok _, ⟨_, rfl⟩, q⟩
theorem opB0 {f : Value → Value → Sem Value} {g : Int → Int → Bool}
    (rule : ∀ (i j : Int) (t u : Tok) (s : Shared) (Q : Value → Shared → Prop) (E : Value → Shared → Prop), Q (.bool (g i j)) s → wpAny (model X.prog X.w) X.A (f (.int i t) (.int j u)) Q E s) :
    OpR X f (rI0 fun i j => .bl (g i j)) := by
  intro pins s σ H x y v u Q I rx ry h
  obtain ⟨i, j, rfl, rfl, q⟩ := h
  obtain ⟨t, rfl⟩ := rx
  obtain ⟨t', rfl⟩ := ry
  exact rule i j t t' s _ _ ⟨.bl (g i j), H, I, rfl, q⟩
def CPow (i j : Int) : Prop := 0 ≤ j ∧ j ≤ 1000000 ∧ i.natAbs < 2 ^ 64
def CMul (i j : Int) : Prop := (-(2 ^ 64) < i ∧ i < 2 ^ 64) ∨ (-(2 ^ 64) < j ∧ j < 2 ^ 64)
theorem CMul.ok {i j : Int} (h : CMul i j) : IntMulOk i j := by
  rcases h with ⟨h1, h2⟩ | ⟨h1, h2⟩
  · exact .of_left (intBits_le_64 h1 h2)
  · exact .of_right (intBits_le_64 h1 h2)
theorem op_add : OpR X (binaryOp .Add) (rI0 fun i j => .int (i + j)) := opI0 fun _ _ _ _ _ _ _ q => add_int q
theorem op_sub : OpR X (binaryOp .Sub) (rI0 fun i j => .int (i - j)) := opI0 fun _ _ _ _ _ _ _ q => sub_int q
theorem op_mod : OpR X (binaryOp .Mod) (rI (fun _ j => 0 < j) fun i j => .int (i % j)) := opI fun i j _ _ _ _ _ hc q => by
  have h1 : (0 : Int) < j := hc
  exact mod_int' (by omega) (by rw [Int.fmod_eq_emod_of_nonneg i (by omega)]; exact q)
theorem op_pow : OpR X (binaryOp .Pow) (rI CPow fun i j => .int (i ^ j.toNat)) := opI fun _ _ _ _ _ _ _ hc q => pow_int_small hc.1 hc.2.1 hc.2.2 q
theorem unI {f : Value → Sem Value} {g : Int → Int}
    (rule : ∀ (i : Int) (t : Tok) (s : Shared) (Q : Value → Shared → Prop) (E : Value → Shared → Prop), Q (.int (g i) s.toks) { s with toks := s.toks + 1 } → wpAny (model X.prog X.w) X.A (f (.int i t)) Q E s) :
    UnR X f (rU fun i => .int (g i)) := by
  intro pins s σ H x v Q I rx h
  obtain ⟨i, rfl, q⟩ := h
  obtain ⟨t, rfl⟩ := rx
  exact rule i t s _ _ ⟨.int (g i), H, I.tok _, ⟨_, rfl⟩, q⟩
theorem un_neg : UnR X (unaryOp .USub) (rU fun i => .int (-i)) := unI fun _ _ _ _ _ q => neg_int q
end
def scal : V → V → Bool
  | .non, .non => true | .non, .int _ => true | .int _, .non => true | .non, .bl _ => true | .bl _, .non => true | .non, .str _ => true | .str _, .non => true
  | .int _, .int _ => true | .bl _, .bl _ => true | .str _, .str _ => true | .byt _, .byt _ => true
  | .int _, .str _ => true | .str _, .int _ => true | .bl _, .str _ => true | .str _, .bl _ => true
  | _, _ => false
def rEq : R2 := fun x y H Q => scal x y = true ∧ Q (.bl (decide (x = y))) H
def rNe : R2 := fun x y H Q => scal x y = true ∧ Q (.bl (!decide (x = y))) H
theorem dec_int {i j : Int} : decide (V.int i = V.int j) = (i == j) := by
  rw [Bool.eq_iff_iff]
  simp
theorem dec_bl {i j : Bool} : decide (V.bl i = V.bl j) = (i == j) := by
  rw [Bool.eq_iff_iff]
  simp
theorem dec_str {i j : Str} : decide (V.str i = V.str j) = (i == j) := by
  rw [Bool.eq_iff_iff]
  simp
theorem dec_byt {i j : Array UInt8} : decide (V.byt i = V.byt j) = (i.toList == j.toList) := by
  rw [Bool.eq_iff_iff]
  cases i
  cases j
  simp
section
variable {X : Cx} {a b c : Expr} {ta tb tc : TE} {pos : Pos}
theorem fin_bl {pins : List (Addr × Obj)} {σ : St} {H : Hp} {s : Shared} {Q : VK} {k k' : Bool} (I : Inv X pins σ H s) (q : Q (.bl k) H) (e : k = k') : EP X pins σ Q (.bool k') s := by
  subst e
  exact ⟨.bl k, H, I, rfl, q⟩
theorem op_eq : OpR X (compareOp .Eq) rEq := by
  intro pins s σ H x y v u Q I rx ry h
  obtain ⟨hs, q⟩ := h
  cases x with
  | non =>
    cases rx
    cases y with
    | non => cases ry; exact PySem.EqNone.eq_none_none (fin_bl I q (by simp))
    | bl j => cases ry; exact PySem.EqNone.eq_none_bool (fin_bl I q (by simp))
    | int j => obtain ⟨t', rfl⟩ := ry; exact PySem.EqNone.eq_none_int (fin_bl I q (by simp))
    | str j => obtain ⟨t', rfl⟩ := ry; exact PySem.EqNone.eq_none_str (fin_bl I q (by simp))
    | _ => exact absurd (show false = true from hs) Bool.false_ne_true
  | bl i =>
    cases rx
    cases y with
    | non => cases ry; exact PySem.EqNone.eq_bool_none (fin_bl I q (by simp))
    | bl j => cases ry; exact eq_bool (fin_bl I q dec_bl)
    | str j => obtain ⟨t', rfl⟩ := ry; exact PySem.EqMixed.eq_bool_str (fin_bl I q (by simp))
    | _ => exact absurd (show false = true from hs) Bool.false_ne_true
  | int i =>
    obtain ⟨t, rfl⟩ := rx
    cases y with
    | non => cases ry; exact PySem.EqNone.eq_int_none (fin_bl I q (by simp))
    | int j => obtain ⟨t', rfl⟩ := ry; exact eq_int (fin_bl I q dec_int)
    | str j => obtain ⟨t', rfl⟩ := ry; exact PySem.EqMixed.eq_int_str (fin_bl I q (by simp))
    | _ => exact absurd (show false = true from hs) Bool.false_ne_true
  | str i =>
    obtain ⟨t, rfl⟩ := rx
    cases y with
    | non => cases ry; exact PySem.EqNone.eq_str_none (fin_bl I q (by simp))
    | bl j => cases ry; exact PySem.EqMixed.eq_str_bool (fin_bl I q (by simp))
    | int j => obtain ⟨t', rfl⟩ := ry; exact PySem.EqMixed.eq_str_int (fin_bl I q (by simp))
    | str j => obtain ⟨t', rfl⟩ := ry; exact eq_str (fin_bl I q dec_str)
    | _ => exact absurd (show false = true from hs) Bool.false_ne_true
  | byt i =>
    obtain ⟨t, rfl⟩ := rx
    cases y with
    | byt j => obtain ⟨t', rfl⟩ := ry; exact PySem.W.eq_bytes (fin_bl I q dec_byt)
    | _ => exact absurd (show false = true from hs) Bool.false_ne_true
  | _ => cases y <;> exact absurd (show false = true from hs) Bool.false_ne_true
theorem op_ne : OpR X (compareOp .NotEq) rNe := by
  intro pins s σ H x y v u Q I rx ry h
  obtain ⟨hs, q⟩ := h
  cases x with
  | non =>
    cases rx
    cases y with
    | non => cases ry; exact PySem.EqNone.ne_none_none (fin_bl I q (by simp))
    | bl j => cases ry; exact PySem.EqNone.ne_none_bool (fin_bl I q (by simp))
    | int j => obtain ⟨t', rfl⟩ := ry; exact PySem.EqNone.ne_none_int (fin_bl I q (by simp))
    | str j => obtain ⟨t', rfl⟩ := ry; exact PySem.EqNone.ne_none_str (fin_bl I q (by simp))
    | _ => exact absurd (show false = true from hs) Bool.false_ne_true
  | bl i =>
    cases rx
    cases y with
    | non => cases ry; exact PySem.EqNone.ne_bool_none (fin_bl I q (by simp))
    | bl j => cases ry; exact ne_bool (fin_bl I q (congrArg not dec_bl))
    | str j => obtain ⟨t', rfl⟩ := ry; exact PySem.EqMixed.ne_bool_str (fin_bl I q (by simp))
    | _ => exact absurd (show false = true from hs) Bool.false_ne_true
  | int i =>
    obtain ⟨t, rfl⟩ := rx
    cases y with
    | non => cases ry; exact PySem.EqNone.ne_int_none (fin_bl I q (by simp))
    | int j => obtain ⟨t', rfl⟩ := ry; exact ne_int (fin_bl I q (congrArg not dec_int))
    | str j => obtain ⟨t', rfl⟩ := ry; exact PySem.EqMixed.ne_int_str (fin_bl I q (by simp))
    | _ => exact absurd (show false = true from hs) Bool.false_ne_true
  | str i =>
    obtain ⟨t, rfl⟩ := rx
    cases y with
    | non => cases ry; exact PySem.EqNone.ne_str_none (fin_bl I q (by simp))
    | bl j => cases ry; exact PySem.EqMixed.ne_str_bool (fin_bl I q (by simp))
    | int j => obtain ⟨t', rfl⟩ := ry; exact PySem.EqMixed.ne_str_int (fin_bl I q (by simp))
    | str j => obtain ⟨t', rfl⟩ := ry; exact ne_str (fin_bl I q (congrArg not dec_str))
    | _ => exact absurd (show false = true from hs) Bool.false_ne_true
  | byt i =>
    obtain ⟨t, rfl⟩ := rx
    cases y with
    | byt j => obtain ⟨t', rfl⟩ := ry; exact PySem.W.ne_bytes (fin_bl I q (congrArg not dec_byt))
    | _ => exact absurd (show false = true from hs) Bool.false_ne_true
  | _ => cases y <;> exact absurd (show false = true from hs) Bool.false_ne_true
theorem op_lt : OpR X (compareOp .Lt) (rI0 fun i j => .bl (decide (i < j))) := opB0 fun _ _ _ _ _ _ _ q => lt_int q
theorem op_le : OpR X (compareOp .LtE) (rI0 fun i j => .bl (decide (i ≤ j))) := opB0 fun _ _ _ _ _ _ _ q => le_int q
theorem op_gt : OpR X (compareOp .Gt) (rI0 fun i j => .bl (decide (j < i))) := opB0 fun _ _ _ _ _ _ _ q => gt_int q
theorem op_ge : OpR X (compareOp .GtE) (rI0 fun i j => .bl (decide (j ≤ i))) := opB0 fun _ _ _ _ _ _ _ q => ge_int q
theorem op_isN : OpR X (compareOp .Is) (fun x y H Q => y = .non ∧ Q (.bl (decide (x = .non))) H) := by
  intro pins s σ H x y v u Q I rx ry h
  obtain ⟨rfl, q⟩ := h
  cases ry
  refine is_none_gen (fin_bl I q ?_)
  cases x <;> first
    | (cases rx; rfl)
    | (obtain ⟨t, rfl⟩ := rx; rfl)
theorem op_notN : OpR X (compareOp .IsNot) (fun x y H Q => y = .non ∧ Q (.bl (!decide (x = .non))) H) := by
  intro pins s σ H x y v u Q I rx ry h
  obtain ⟨rfl, q⟩ := h
  cases ry
  refine isnot_none_gen (fin_bl I q ?_)
  cases x <;> first
    | (cases rx; rfl)
    | (obtain ⟨t, rfl⟩ := rx; rfl)
theorem OpR.or {f : Value → Value → Sem Value} {r r' : R2} (h : OpR X f r) (h' : OpR X f r') : OpR X f (fun x y H Q => r x y H Q ∨ r' x y H Q) := by
  intro pins s σ H x y v u Q I rx ry q
  rcases q with q | q
  · exact h pins s σ H x y v u Q I rx ry q
  · exact h' pins s σ H x y v u Q I rx ry q
theorem nomark (b : Expr) {op : CmpOp} (h : op ≠ .In := by decide) (h2 : op ≠ .NotIn := by decide) : behindInMarks op b = false := by
  have e1 : (op == CmpOp.In) = false := by cases op <;> first | rfl | exact absurd rfl h
  have e2 : (op == CmpOp.NotIn) = false := by cases op <;> first | rfl | exact absurd rfl h2
  cases b <;> simp [behindInMarks, e1, e2]
theorem pe_cmpR {op : CmpOp} {r : R2} (ho : OpR X (compareOp op) r) (ha : PE X a ta) (hb : PE X b tb) (hm : behindInMarks op b = false) : PE X (.Compare a [op] [b] pos) (tOp r ta tb) := by
  intro pins s σ H Q I h
  exact wpAny_Compare1 (binT ha hb I h fun v u s2 x y H2 I2 rx ry q => ho pins s2 σ H2 x y v u Q I2 rx ry q) hm
def tTest (t : TE) : TT := fun σ H Q => t σ H fun x H' => ∃ k, x = .bl k ∧ Q k H'
theorem pt_cmpR {op : CmpOp} {r : R2} (ho : OpR X (compareOp op) r) (ha : PE X a ta) (hb : PE X b tb) (hm : behindInMarks op b = false) : PT X (.Compare a [op] [b] pos) (tTest (tOp r ta tb)) := by
  intro pins s σ H Q I h
  refine wpAny_isTrue_Compare1 (thn (ha pins s σ H _ I h) fun v s1 ⟨x, H1, I1, r1, q1⟩ => thn (hb pins s1 σ H1 _ I1 q1) fun u s2 ⟨y, H2, I2, r2, q2⟩ =>
    thn (ho pins s2 σ H2 x y v u _ I2 r1 r2 q2) fun c s3 ⟨z, H3, I3, r3, k, e, q3⟩ => ?_) hm
  subst e
  cases r3
  exact wpAny_truthy_bool ⟨H3, I3, q3⟩
def tChain (r r' : R2) (ta tb tc : TE) : TE := fun σ H Q => ta σ H fun x H1 => tb σ H1 fun y H2 => r x y H2 fun z H3 => ∃ k, z = .bl k ∧
  (if k = true then tc σ H3 fun w' H4 => r' y w' H4 Q else Q (.bl false) H3)
theorem pe_chain {op op' : CmpOp} {r r' : R2} (ho : OpR X (compareOp op) r) (ho' : OpR X (compareOp op') r') (ha : PE X a ta) (hb : PE X b tb) (hc : PE X c tc)
    (hm : lastMarks [op, op'] [b, c] = false := by with_unfolding_all rfl) : PE X (.Compare a [op, op'] [b, c] pos) (tChain r r' ta tb tc) := by
  intro pins s σ H Q I h
  refine Compare_chain (thn (ha pins s σ H _ I h) fun v s1 ⟨x, H1, I1, r1, q1⟩ => chain_link (thn (hb pins s1 σ H1 _ I1 q1) fun u s2 ⟨y, H2, I2, r2, q2⟩ =>
    thn (ho pins s2 σ H2 x y v u _ I2 r1 r2 q2) fun d s3 ⟨z, H3, I3, r3, k, e, q3⟩ => ?_)) hm
  subst e
  cases r3
  refine wpAny_truthy_bool ?_
  cases k with
  | false => exact ite_ff ⟨.bl false, H3, I3, rfl, q3⟩
  | true => exact ite_tt (chain_last (thn (hc pins s3 σ H3 _ I3 q3) fun w' s4 ⟨z', H4, I4, r4, q4⟩ => ho' pins s4 σ H4 y z' u w' Q I4 r2 r4 q4))
def TruV (K : PySem.W.Frag) (x : V) (H : Hp) (k : Bool) : Prop :=
  match x with
  | .non => k = false
  | .bl b => k = b
  | .int i => k = (i != 0)
  | .str y => y.length ≤ sizeLine ∧ k = ((y.length : Int) != 0)
  | .byt y => y.size ≤ sizeLine ∧ k = ((y.size : Int) != 0)
  | .ref p => (∃ xs, SqL K H p xs ∧ k = !xs.isEmpty) ∨ (∃ xs, SqT K H p xs ∧ k = !xs.isEmpty) ∨ ∃ kvs, H p = some (.dK kvs) ∧ k = !kvs.isEmpty
  | _ => False
theorem isEmpty_kv {κ : Type} {kvs : List (κ × V)} {vs : List (κ × Value)} (r : KV kvs vs) : (!vs.isEmpty) = !kvs.isEmpty := by
  cases r <;> rfl
theorem isEmpty_of {xs : List V} {its : List Value} (r : Vals xs its) : (!its.toArray.isEmpty) = !xs.isEmpty := by
  cases r <;> simp
theorem line63 : (sizeLine : Nat) < 2 ^ 63 := by rw [sizeLine_eq]; decide
theorem tru_ok : TruR X (fun x H Q => ∃ k, TruV X.K x H k ∧ Q k H) := by
  intro pins s σ H x v Q I rx h
  obtain ⟨k, e, q⟩ := h
  have hl := line63
  have hs : sizeLine = 16777216 := sizeLine_eq
  cases x with
  | non =>
    cases rx
    have e' : k = false := e
    subst e'
    exact truthy_none ⟨H, I, q⟩
  | bl b =>
    cases rx
    have e' : k = b := e
    subst e'
    exact wpAny_truthy_bool ⟨H, I, q⟩
  | int i =>
    obtain ⟨t, rfl⟩ := rx
    have e' : k = (i != 0) := e
    subst e'
    exact PySem.P.truthy_int ⟨H, I, q⟩
  | str y =>
    obtain ⟨t, rfl⟩ := rx
    obtain ⟨hy, e'⟩ : y.length ≤ sizeLine ∧ k = ((y.length : Int) != 0) := e
    subst e'
    exact PySem.P.truthy_str (by omega) ⟨H, I.tok _, q⟩
  | byt y =>
    obtain ⟨t, rfl⟩ := rx
    obtain ⟨hy, e'⟩ : y.size ≤ sizeLine ∧ k = ((y.size : Int) != 0) := e
    subst e'
    exact PySem.W.truthy_bytes (by omega) ⟨H, I.tok _, q⟩
  | ref p =>
    cases rx
    have e' : (∃ xs, SqL X.K H p xs ∧ k = !xs.isEmpty) ∨ (∃ xs, SqT X.K H p xs ∧ k = !xs.isEmpty) ∨ ∃ kvs, H p = some (.dK kvs) ∧ k = !kvs.isEmpty := e
    rcases e' with ⟨xs, hx, e'⟩ | ⟨xs, hx, e'⟩ | ⟨kvs, hx, e'⟩
    · subst e'
      obtain ⟨its, r, pl, hz⟩ := I.list hx
      have hlen := r.length
      exact wpAny_truthy_list pl.isList (by simp only [List.size_toArray]; omega) ⟨H, I.tok _, by rw [isEmpty_of r]; exact q⟩
    · subst e'
      obtain ⟨its, r, pl, hz⟩ := I.tuple hx
      have hlen := r.length
      exact truthy_tuple pl (by simp only [List.size_toArray]; omega) ⟨H, I.tok _, by rw [isEmpty_of r]; exact q⟩
    · subst e'
      obtain ⟨hz, hS, vs, r, m⟩ : kvs.length ≤ sizeLine ∧ (p == sysModules) = false ∧ ∃ vs, KV kvs vs ∧ s.heap.DictOf (mixKind X.prog X.w) p vs := I.hok p _ hx
      have hlen : kvs.length = vs.length := Paired.length r
      exact wpAny_truthy_dict hS m (by omega) ⟨H, I.tok _, by rw [isEmpty_kv r]; exact q⟩
  | _ => exact (show False from e).elim
theorem pt_truth (ha : PE X a ta) (he : ∀ whole, isTrue a X.env whole = (do let v ← whole; standAt a.pos; holding [v] (truthy v))) :
    PT X a (fun σ H Q => ta σ H fun x H' => ∃ k, TruV X.K x H' k ∧ Q k H') := by
  intro pins s σ H Q I h
  exact isTrue_plain (thn (ha pins s σ H _ I h) fun v s1 ⟨x, H1, I1, r1, q1⟩ => tru_ok pins s1 σ H1 x v Q I1 r1 q1) (he _)
theorem vals1 {x : V} {us : List Value} (r : Vals [x] us) : ∃ u, us = [u] ∧ RelV x u := by
  cases r with
  | cons r1 r2 => cases r2; exact ⟨_, rfl, r1⟩
theorem vals2 {x y : V} {us : List Value} (r : Vals [x, y] us) : ∃ u w', us = [u, w'] ∧ RelV x u ∧ RelV y w' := by
  cases r with
  | cons r1 r2 =>
    cases r2 with
    | cons r3 r4 => cases r4; exact ⟨_, _, rfl, r1, r3⟩
theorem call_min2 (hc : X.calm = true) : CallR X (.builtin "min") (fun xs H Q => ∃ i j, xs = [.int i, .int j] ∧ Q (.int (if j < i then j else i)) H) := by
  intro pins s σ H xs us Q I r h
  obtain ⟨i, j, rfl, q⟩ := h
  obtain ⟨u, w', rfl, ⟨t, rfl⟩, ⟨t', rfl⟩⟩ := vals2 r
  refine min_two_ints (I.ok.hd hc) fun h' tk k => ⟨_, H, I.kept k, ?_, q⟩
  by_cases hj : j < i
  · rw [if_pos hj, if_pos hj]; exact ⟨_, rfl⟩
  · rw [if_neg hj, if_neg hj]; exact ⟨_, rfl⟩
theorem call_int1 : CallR X (.type "int") (fun xs H Q => (∃ i, xs = [.int i] ∧ Q (.int i) H) ∨ ∃ k, xs = [.bl k] ∧ Q (.int (if k then 1 else 0)) H) := by
  intro pins s σ H xs us Q I r h
  rcases h with ⟨i, rfl, q⟩ | ⟨k, rfl, q⟩
  · obtain ⟨u, rfl, t, rfl⟩ := vals1 r
    exact call_int_int ⟨.int i, H, I, ⟨_, rfl⟩, q⟩
  · obtain ⟨u, rfl, r1⟩ := vals1 r
    cases r1
    exact call_int_bool ⟨.int (if k then 1 else 0), H, I.tok _, ⟨_, rfl⟩, q⟩
def LenV (K : PySem.W.Frag) (x : V) (H : Hp) (n : Nat) : Prop :=
  match x with
  | .str y => y.length ≤ sizeLine ∧ n = y.length
  | .byt y => y.size ≤ sizeLine ∧ n = y.size
  | .ref p => (∃ xs, SqL K H p xs ∧ n = xs.length) ∨ ∃ xs, SqT K H p xs ∧ n = xs.length
  | _ => False
theorem call_len : CallR X (.builtin "len") (fun xs H Q => ∃ x n, xs = [x] ∧ LenV X.K x H n ∧ Q (.int n) H) := by
  intro pins s σ H xs us Q I r h
  obtain ⟨x, n, rfl, e, q⟩ := h
  obtain ⟨u, rfl, rx⟩ := vals1 r
  have hl := line63
  have hs : sizeLine = 16777216 := sizeLine_eq
  cases x with
  | str y =>
    obtain ⟨t, rfl⟩ := rx
    obtain ⟨hy, e'⟩ : y.length ≤ sizeLine ∧ n = y.length := e
    subst e'
    exact len_str (by omega) ⟨.int _, H, I.tok _, ⟨_, rfl⟩, q⟩
  | byt y =>
    obtain ⟨t, rfl⟩ := rx
    obtain ⟨hy, e'⟩ : y.size ≤ sizeLine ∧ n = y.size := e
    subst e'
    exact PySem.W.len_bytes (by omega) ⟨.int _, H, I.tok _, ⟨_, rfl⟩, q⟩
  | ref p =>
    cases rx
    have e' : (∃ xs, SqL X.K H p xs ∧ n = xs.length) ∨ ∃ xs, SqT X.K H p xs ∧ n = xs.length := e
    rcases e' with ⟨xs, hx, e'⟩ | ⟨xs, hx, e'⟩
    · subst e'
      obtain ⟨its, r', pl, hz⟩ := I.list hx
      have hlen := r'.length
      exact Calls.call_len_list pl.isList (by simp only [List.size_toArray]; omega) ⟨.int xs.length, H, I.tok _, ⟨_, by simp only [List.size_toArray]; rw [hlen]⟩, q⟩
    · subst e'
      obtain ⟨its, r', pl, hz⟩ := I.tuple hx
      have hlen := r'.length
      exact len_tuple pl (by simp only [List.size_toArray]; omega) ⟨.int xs.length, H, I.tok _, ⟨_, by simp only [List.size_toArray]; rw [hlen]⟩, q⟩
  | _ => exact (show False from e).elim
end
structure ObjM (h : Heap) (x dx C : Addr) (mA : Str → Option Value) : Prop where
  obj : h.get? x = some (PySem.W.instObj C dx)
  ns : h.Ns1 dx mA
  ne : dx ≠ x
theorem lookIn_ns {h : Heap} {dx : Addr} {mA : Str → Option Value} (n : h.Ns1 dx mA) : ∃ od, h.get? dx = some od ∧ ∀ name, PySem.W.lookIn name od = some (mA name) := by
  obtain ⟨o, es, ep, ho, hd, hk, _, hm⟩ := n
  refine ⟨o, ho, fun name => ?_⟩
  have e := hm name
  unfold nsFind findBy at e
  rw [← Array.find?_toList] at e
  unfold PySem.W.lookIn
  rw [hd]
  dsimp only
  split
  · rename_i y q
    rw [q] at e
    exact congrArg some e
  · rename_i q
    rw [q] at e
    have a : es.toList.any (·.refKey) = false := by
      rw [List.any_eq_false]
      intro y hy
      obtain ⟨z, t, hkey⟩ := hk y (Array.mem_toList_iff.mp hy)
      simp [DictEntry.refKey, hkey]
    have a' : ¬ es.toList.any (·.refKey) = true := by rw [a]; exact Bool.false_ne_true
    rw [if_neg a']
    exact congrArg some e
theorem ObjM.look {h : Heap} {x dx C : Addr} {mA : Str → Option Value} (I : ObjM h x dx C mA) : ∃ od, PySem.W.InstAt h x (PySem.W.instObj C dx) C (some od) ∧ ∀ name, PySem.W.lookIn name od = some (mA name) :=
  let ⟨od, ho, hl⟩ := lookIn_ns I.ns
  ⟨od, ⟨I.obj, rfl, rfl, ho⟩, hl⟩
section
variable {prog : Program} {w : World} {A : Around} {E : Value → Shared → Prop} {s : Shared} {K : PySem.W.Frag} {x dx C f : Addr} {mA : Str → Option Value} {name : Str} {v : Value}
theorem get_map {expr : Bool} {Q : Value → Shared → Prop} (X : K.In s.heap) (I : ObjM s.heap x dx C mA) (hg : PySem.W.plainGet K C name = true) (hh : PySem.W.hasDictIn K C = true)
    (ha : PySem.W.findIn K (.ref C) name = some none) (hv : mA name = some v) (hv' : PySem.W.handedIn v = true) (h : Q v { s with toks := s.toks + 1 }) :
    wpAny (model prog w) A (getAttr (.ref x) name expr) Q E s := by
  obtain ⟨od, J, hl⟩ := I.look
  exact PySem.W.get_value X J (PySem.W.plainGet_of hg).1 (PySem.W.findObj_own hh ha rfl (by rw [hl, hv])) hv' h
theorem get_meth {pl : Sem Bool} {Q : Value × List Value → Shared → Prop} (X : K.In s.heap) (I : ObjM s.heap x dx C mA) (hg : PySem.W.plainGet K C name = true)
    (hf : PySem.W.findIn K (.ref C) name = some (some (.ref f))) (ht : PySem.W.isFn K (.ref f) = true) (hv : mA name = none) (h : Q (.ref f, [.ref x]) s) :
    wpAny (model prog w) A (getMethod (.ref x) name pl) Q E s := by
  obtain ⟨od, J, hl⟩ := I.look
  exact PySem.W.method_fn X J (PySem.W.plainGet_of hg).1 (PySem.W.plainGet_of hg).2 hf (beq_iff_eq.mp ht) (by show (PySem.W.lookIn name od).map (·.isSome) = some false; rw [hl, hv]; rfl) h
theorem set_map {ns : List Str} {Q : Unit → Shared → Prop} (X : K.In s.heap) (I : ObjM s.heap x dx C mA)
    (hs : PySem.W.findIn K (.ref C) "__setattr__" = some (some (.builtin "object.__setattr__"))) (hp : PySem.W.plainOver K C = true) (ht : PySem.W.takerIn K C name = some none) (hh : PySem.W.hasDictIn K C = true)
    (hw : PySem.Within mA ns) (hsz : ns.length ≤ sizeLine)
    (h : ∀ h', ObjM h' x dx C (fun y => if y = name then some v else mA y) → Heap.SameBut dx s.heap h' → Q () { s with heap := h', toks := s.toks + 2 }) :
    wpAny (model prog w) A (setAttr (.ref x) name v) Q E s := by
  obtain ⟨od, J, hl⟩ := I.look
  refine PySem.W.set_plain X J hs (PySem.W.osa_open (s := { s with toks := s.toks + 1 }) (r := none) X J hp ht fun b => ?_)
  obtain ⟨cd, hc, hd'⟩ := PySem.W.any_some hh
  have hx : s.heap.get? x = some ⟨.ref C, some dx, .plain, #[]⟩ := I.obj
  refine wpAny_bind (wpAny_pure (wpAny_bind (wpAny_bind (wpAny_loadPart hx (wpAny_bind (PySem.W.Looks.here (s := { s with toks := s.toks + 1 }) (PySem.W.looks_clsIn X hc) ?_))))))
  rw [hd']
  refine wpAny_pure (a := some dx) (wpAny_bind (wpAny_pure (wpAny_bind ?_)))
  refine wpAny_nsSet1 (s := { s with toks := s.toks + 1 }) I.ns fun h' hn2 hs2 => ?_
  obtain ⟨oD, esD, epD, hoD, hdD, hcD⟩ := hn2.count (PySem.Within.cons name v hw)
  refine wpAny_bind (wpAny_lookBehind hoD (by rw [hdD]; exact pastItsLine_dict (Nat.le_trans hcD (by rw [List.length_cons]; omega))) ?_)
  exact wpAny_pure (h _ ⟨(hs2.2 _ (Ne.symm I.ne)).trans I.obj, hn2, I.ne⟩ hs2)
theorem make_map {R : Result → Shared → Prop} {vs : List Value} {kw : List (Str × Value)} (X : K.In s.heap) (hm : PySem.W.makesIn K C = true)
    (hi : PySem.W.findIn K (.ref C) "__init__" = some (some (.ref f))) (hf : PySem.W.typeIn K (.ref f) = some (.type "function"))
    (h : codeAny (model prog w) (A.under (.builtin "type.__call__" ⟨.ref C :: vs, kw⟩)) (.call (.ref f) ⟨.ref (s.heap.objs.size + 1) :: vs, kw⟩) (PySem.W.InitBack (s.heap.objs.size + 1) R)
      { s with heap := (s.heap.push PySem.W.emptyDict).push (PySem.W.instObj C s.heap.objs.size) }) :
    codeAny (model prog w) A (.call (.ref C) ⟨vs, kw⟩) R s := by
  obtain ⟨hh, g, d, t, os⟩ := s
  exact PySem.W.make_core (PySem.W.makes_of X hm) (PySem.W.looks_findIn X hi) (fun self => PySem.W.bind_fn X self hf) (.inl rfl) h
end
def putF (f : Str) (v : V) : List (Str × V) → List (Str × V)
  | [] => [(f, v)]
  | (g, x) :: r => if g = f then (g, v) :: r else (g, x) :: putF f v r
theorem lookup_putF (f g : Str) (v : V) : ∀ fs : List (Str × V), (putF f v fs).lookup g = if g = f then some v else fs.lookup g
  | [] => by
    show List.lookup g [(f, v)] = _
    by_cases h : g = f
    · have hb : (g == f) = true := beq_iff_eq.mpr h
      simp only [List.lookup, hb, if_pos h]
    · have hb : (g == f) = false := beq_eq_false_iff_ne.mpr h
      simp only [List.lookup, hb, if_neg h]
  | (k, x) :: r => by
    have ih := lookup_putF f g v r
    rw [show putF f v ((k, x) :: r) = (if k = f then (k, v) :: r else (k, x) :: putF f v r) from rfl]
    by_cases hk : k = f
    · rw [if_pos hk]
      by_cases h : g = k
      · have hb : (g == k) = true := beq_iff_eq.mpr h
        simp only [List.lookup, hb, if_pos (h.trans hk)]
      · have hb : (g == k) = false := beq_eq_false_iff_ne.mpr h
        simp only [List.lookup, hb, if_neg (fun e : g = f => h (e.trans hk.symm))]
    · rw [if_neg hk]
      by_cases h : g = k
      · have hb : (g == k) = true := beq_iff_eq.mpr h
        simp only [List.lookup, hb, if_neg (fun e : g = f => hk (h.symm.trans e))]
      · have hb : (g == k) = false := beq_eq_false_iff_ne.mpr h
        simp only [List.lookup, hb]
        exact ih
theorem keys_putF (f : Str) (v : V) : ∀ fs : List (Str × V), f ∈ (putF f v fs).map (·.1) ∧ ∀ g, g ∈ fs.map (·.1) → g ∈ (putF f v fs).map (·.1)
  | [] => ⟨by simp [putF], fun g h => by simp at h⟩
  | (k, x) :: r => by
    obtain ⟨i1, i2⟩ := keys_putF f v r
    rw [show putF f v ((k, x) :: r) = (if k = f then (k, v) :: r else (k, x) :: putF f v r) from rfl]
    by_cases hk : k = f
    · rw [if_pos hk]
      subst hk
      exact ⟨by simp, fun g h => by simpa using h⟩
    · rw [if_neg hk]
      refine ⟨?_, fun g h => ?_⟩
      · rw [List.map_cons]
        exact List.mem_cons_of_mem _ i1
      · rw [List.map_cons] at h ⊢
        rcases List.mem_cons.mp h with e | e
        · exact List.mem_cons.mpr (.inl e)
        · exact List.mem_cons_of_mem _ (i2 g e)
theorem length_putF (f : Str) (v : V) : ∀ fs : List (Str × V), (putF f v fs).length ≤ fs.length + 1
  | [] => by simp [putF]
  | (k, x) :: r => by
    have ih := length_putF f v r
    rw [show putF f v ((k, x) :: r) = (if k = f then (k, v) :: r else (k, x) :: putF f v r) from rfl]
    by_cases hk : k = f
    · rw [if_pos hk, List.length_cons, List.length_cons]; omega
    · rw [if_neg hk, List.length_cons, List.length_cons]; omega
theorem RelO.some_of {v : V} {o : Option Value} (r : RelO (some v) o) : ∃ u, o = some u ∧ RelV v u := by
  cases o with
  | none => exact (show False from r).elim
  | some u => exact ⟨u, rfl, r⟩
theorem RelO.none_of {o : Option Value} (r : RelO none o) : o = none := by
  cases o with
  | none => rfl
  | some u => exact (show False from r).elim
theorem handed_of {v : V} {u : Value} (r : RelV v u) : PySem.W.handedIn u = true := by
  cases v with
  | non => cases (show u = Value.none from r); rfl
  | bl b => cases (show u = Value.bool b from r); rfl
  | int i => obtain ⟨t, e⟩ := (show ∃ t, u = Value.int i t from r); cases e; rfl
  | str x => obtain ⟨t, e⟩ := (show ∃ t, u = Value.str x t from r); cases e; rfl
  | byt b => obtain ⟨t, e⟩ := (show ∃ t, u = Value.bytes b t from r); cases e; rfl
  | flt b => obtain ⟨t, e⟩ := (show ∃ t, u = Value.float b t from r); cases e; rfl
  | ref a => cases (show u = Value.ref a from r); rfl
  | ty n => cases (show u = Value.type n from r); rfl
section
variable {P : Program} {w : World} {H H' : Hp} {h h' : Heap} {a C dx : Addr} {fs fs' : List (Str × V)}
theorem ins_get (hok : HOk P w H h) (e : H a = some (.ins C dx fs)) : ∃ mA, ObjM h a dx C mA ∧ (∀ f, RelO (fs.lookup f) (mA f)) ∧ PySem.Within mA (fs.map (·.1)) ∧ fs.length ≤ 1000 ∧ H dx = some (.own a) := by
  obtain ⟨d, z, ne, ob, mA, n, r, q⟩ := (show ObjOk P w H h a (.ins C dx fs) from hok a _ e)
  exact ⟨mA, ⟨ob, n, ne⟩, r, q, z, d⟩
end
structure Cls (K : PySem.W.Frag) (C : Addr) : Prop where
  pg : PySem.W.plainGet K C Str.empty = true
  hd : PySem.W.hasDictIn K C = true
  po : PySem.W.plainOver K C = true
  sa : PySem.W.findIn K (.ref C) "__setattr__" = some (some (.builtin "object.__setattr__"))
theorem Cls.get {K : PySem.W.Frag} {C : Addr} (c : Cls K C) (f : Str) : PySem.W.plainGet K C f = true := c.pg
def NoAttr (K : PySem.W.Frag) (C : Addr) (f : Str) : Prop := PySem.W.findIn K (.ref C) f = some none
theorem NoAttr.taker {K : PySem.W.Frag} {C : Addr} {f : Str} (n : NoAttr K C f) : PySem.W.takerIn K C f = some none := by
  unfold PySem.W.takerIn
  rw [show PySem.W.findIn K (.ref C) f = some none from n]
  rfl
structure Con (K : PySem.W.Frag) (C : Addr) (f : Str) (v : V) (u : Value) : Prop where
  at_ : PySem.W.findIn K (.ref C) f = some (some u)
  rel : RelV v u
  get : PySem.W.specialIn K u "__get__" = some none
  cp : PySem.W.copiedNames.contains f = false
structure Meth (K : PySem.W.Frag) (C : Addr) (m : Str) (f : Addr) : Prop where
  at_ : PySem.W.findIn K (.ref C) m = some (some (.ref f))
  fn : PySem.W.isFn K (.ref f) = true
  kp : PySem.W.keepIn K (.ref f) = true
section
variable {X : Cx} {pins : List (Addr × Obj)} {σ : St} {H : Hp} {s : Shared} {a C dx : Addr} {fs : List (Str × V)} {f : Str} {v : V} {A : Around} {E : Value → Shared → Prop}
theorem getattr_ok {b : Bool} {Q : Value → Shared → Prop} (I : Inv X pins σ H s) (e : H a = some (.ins C dx fs)) (c : Cls X.K C) (n : NoAttr X.K C f) (l : fs.lookup f = some v)
    (h : ∀ u s', Inv X pins σ H s' → RelV v u → Q u s') : wpAny (model X.prog X.w) A (getAttr (.ref a) f b) Q E s := by
  obtain ⟨mA, O, r, _, _, _⟩ := ins_get I.hok e
  obtain ⟨u, hu, ru⟩ := RelO.some_of (v := v) (o := mA f) (by rw [← l]; exact r f)
  exact get_map I.kIn O (c.get f) c.hd n hu (handed_of ru) (h u _ (I.tok _) ru)
theorem getmeth_ok {m : Str} {g : Addr} {pl : Sem Bool} {Q : Value × List Value → Shared → Prop} (I : Inv X pins σ H s) (e : H a = some (.ins C dx fs)) (c : Cls X.K C) (k : Meth X.K C m g) (l : fs.lookup m = none)
    (h : Q (.ref g, [.ref a]) s) : wpAny (model X.prog X.w) A (getMethod (.ref a) m pl) Q E s := by
  obtain ⟨mA, O, r, _, _, _⟩ := ins_get I.hok e
  have hn : mA m = none := RelO.none_of (by rw [← l]; exact r m)
  exact get_meth I.kIn O (c.get m) k.at_ k.fn hn h
theorem setattr_ok {y : V} {u : Value} {Q : Unit → Shared → Prop} (I : Inv X pins σ H s) (e : H a = some (.ins C dx fs)) (c : Cls X.K C) (n : NoAttr X.K C f) (hl : fs.length < 1000) (ry : RelV y u)
    (h : ∀ s', Inv X pins σ (upd H a (.ins C dx (putF f y fs))) s' → Q () s') : wpAny (model X.prog X.w) A (setAttr (.ref a) f u) Q E s := by
  obtain ⟨mA, O, r, wi, _, ho⟩ := ins_get I.hok e
  have hz : (fs.map (·.1)).length ≤ sizeLine := by rw [List.length_map, sizeLine_eq]; omega
  refine set_map I.kIn O c.sa c.po n.taker c.hd wi hz fun h' O' sb => h _ ?_
  have hd : ∃ o, h'.get? dx = some o := let ⟨o, _, _, e', _⟩ := O'.ns; ⟨o, e'⟩
  refine I.write (x := a) (e := dx) (by rw [e]; exact True.intro) (.inr ho) (fun b q hb z => (sb.2 b hb).trans z) hd ?_
  refine ⟨by rw [upd_ne O.ne]; exact ho, ?_, O.ne, O'.obj, _, O'.ns, fun g => ?_, fun g hg => ?_⟩
  · have := length_putF f y fs; omega
  · show RelO ((putF f y fs).lookup g) (if g = f then some u else mA g)
    rw [lookup_putF]
    by_cases q : g = f
    · rw [if_pos q, if_pos q]; exact ry
    · rw [if_neg q, if_neg q]; exact r g
  · by_cases q : g = f
    · rw [q]; exact (keys_putF f y fs).1
    · refine (keys_putF f y fs).2 g (wi g fun z => hg ?_)
      show (if g = f then some u else mA g) = none
      rw [if_neg q]; exact z
theorem Inv.made (I : Inv X pins σ H s) : Inv X pins σ (upd (upd H s.heap.objs.size (.own (s.heap.objs.size + 1))) (s.heap.objs.size + 1) (.ins C s.heap.objs.size []))
    { s with heap := (s.heap.push PySem.W.emptyDict).push (PySem.W.instObj C s.heap.objs.size) } := by
  have e1 : (s.heap.push PySem.W.emptyDict).get? s.heap.objs.size = some PySem.W.emptyDict := Heap.get?_push_size s.heap rfl
  have e2 : ((s.heap.push PySem.W.emptyDict).push (PySem.W.instObj C s.heap.objs.size)).get? (s.heap.objs.size + 1) = some (PySem.W.instObj C s.heap.objs.size) := by
    have := Heap.get?_push_size (s.heap.push PySem.W.emptyDict) (o := PySem.W.instObj C s.heap.objs.size) rfl
    rwa [Heap.size_push] at this
  have e3 : (s.heap.push PySem.W.emptyDict).Ns s.heap.objs.size (fun _ => none) := ⟨PySem.W.emptyDict, #[], _, e1, rfl, (fun e he => absurd he (by simp)), fun _ => rfl⟩
  have I1 := I.laid (a := s.heap.objs.size) (o := .own (s.heap.objs.size + 1)) (h' := s.heap.push PySem.W.emptyDict) (t' := s.toks) (fun b u q => Heap.get?_push_of_some _ q) (Nat.le_refl _) ⟨_, e1⟩
  refine I1.laid (a := s.heap.objs.size + 1) (o := .ins C s.heap.objs.size []) (t' := s.toks) (fun b u q => Heap.get?_push_of_some _ q) (Nat.le_of_eq (Heap.size_push _ _)) ?_
  have ne : s.heap.objs.size ≠ s.heap.objs.size + 1 := Nat.ne_of_lt (Nat.lt_succ_self _)
  refine ⟨by rw [upd_ne ne, upd_same], Nat.zero_le _, ne, e2, fun _ => none, (Heap.Ns1.of_empty e3).at fun o q => Heap.get?_push_of_some _ q, fun _ => True.intro, fun y hy => absurd rfl hy⟩
theorem attr_of {prog : Program} {w : World} {env : Env} {e : Expr} {f : Str} {pos : Pos} {s : Shared} {Q : Value → Shared → Prop} (hb : attributeBase e f env (eval e env) = eval e env)
    (h : wpAny (model prog w) A (eval e env) (fun o s₁ => wpAny (model prog w) A (getAttr o f true) Q E s₁) E s) : wpAny (model prog w) A (eval (.Attribute e f pos) env) Q E s :=
  Attribute_any_ h (by rw [arm_eval_Attribute, hb])
end
def tFld (K : PySem.W.Frag) (ta : TE) (f : Str) : TE := fun σ H Q => ta σ H fun x H1 => ∃ a C dx fs v, x = .ref a ∧ H1 a = some (.ins C dx fs) ∧ Cls K C ∧ NoAttr K C f ∧ fs.lookup f = some v ∧ Q v H1
def sFld (K : PySem.W.Frag) (ta tv : TE) (f : Str) : TS := fun D σ H => tv σ H fun y H1 => ta σ H1 fun x H2 => ∃ a C dx fs, x = .ref a ∧ H2 a = some (.ins C dx fs) ∧ Cls K C ∧ NoAttr K C f ∧ fs.length < 1000 ∧
  D.nx σ (upd H2 a (.ins C dx (putF f y fs)))
section
variable {X : Cx} {o e value : Expr} {f : Str} {pos pos' tpos : Pos} {ta tv : TE}
theorem pe_fld (he : PE X e ta) (hb : attributeBase e f X.env (eval e X.env) = eval e X.env) : PE X (.Attribute e f pos) (tFld X.K ta f) := by
  intro pins s σ H Q I h
  refine attr_of hb (thn (he pins s σ H _ I h) fun u s1 ⟨x, H1, I1, rx, a, C, dx, fs, v, ex, ea, c, n, l, q⟩ => ?_)
  subst ex
  obtain rfl : u = Value.ref a := rx
  exact getattr_ok I1 ea c n l fun u' s2 I2 ru => ⟨v, H1, I2, ru, q⟩
theorem ps_fld (ha : PE X o ta) (hv : PE X value tv) (hs : swapsWith value (some (.Attribute o f pos')) pos.line X.env = pure false) : PS X (.Assign [.Attribute o f pos'] value pos) (sFld X.K ta tv f) := by
  intro pins s σ H D I h
  refine plainObj_wpAny_Assign_Attribute (thn (hv pins s σ H _ I h) fun u s1 ⟨y, H1, I1, ry, q⟩ => thn (ha pins s1 σ H1 _ I1 q) fun ov s2 ⟨x, H2, I2, rx, a, C, dx, fs, ex, ea, c, n, l, q2⟩ => ?_) hs
  subst ex
  obtain rfl : ov = Value.ref a := rx
  exact setattr_ok I2 ea c n l ry fun s3 I3 => ⟨σ, _, I3, q2⟩
end
section
variable {X : Cx} {pins : List (Addr × Obj)} {σ : St} {H : Hp} {s : Shared} {A : Around} {E : Value → Shared → Prop} {Q : Value → Shared → Prop} {c : Value} {b : Bool}
inductive TyOf (K : PySem.W.Frag) (H : Hp) : V → Value → Prop where
  | non : TyOf K H .non (.type "NoneType")
  | bl (x : Bool) : TyOf K H (.bl x) (.type "bool")
  | int (i : Int) : TyOf K H (.int i) (.type "int")
  | str (x : Str) : TyOf K H (.str x) (.type "str")
  | flt (x : UInt64) : TyOf K H (.flt x) (.type "float")
  | lst {a : Addr} {xs : List V} (e : H a = some (.lst xs)) : TyOf K H (.ref a) (.type "list")
  | frz {a : Addr} {o : Obj} {xs : List V} (e : H a = some (.frz o (.lst xs))) : TyOf K H (.ref a) (.type "list")
  | tup {a : Addr} {xs : List V} (e : H a = some (.tup xs)) : TyOf K H (.ref a) (.type "tuple")
  | dK {a : Addr} {kvs : List (Key × V)} (e : H a = some (.dK kvs)) : TyOf K H (.ref a) (.type "dict")
  | dT {a : Addr} {kvs : List (List Key × V)} (e : H a = some (.dT kvs)) : TyOf K H (.ref a) (.type "dict")
  | ins {a C dx : Addr} {fs : List (Str × V)} (e : H a = some (.ins C dx fs)) (cl : Cls K C) (ha : PySem.W.findIn K (.ref C) "__class__" = some (some (.builtin "object.__class__")))
      (hn : PySem.W.specialIn K (.builtin "object.__class__") "__get__" = some (some (.builtin "getset_descriptor.__get__"))) (htk : PySem.W.takesIn K (.builtin "object.__class__") = some true)
      (hm : PySem.W.mroIn K C (.type "object") = some true) : TyOf K H (.ref a) (.ref C)
theorem isinst_ok {x : V} {u t : Value} (I : Inv X pins σ H s) (rx : RelV x u) (ty : TyOf X.K H x t) (e : PySem.W.kitOne X.K t c = some b) (h : ∀ tk, Q (.bool b) { s with toks := tk }) :
    wpAny (model X.prog X.w) A (call (.builtin "isinstance") [u, c]) Q E s := by
  cases ty with
  | non => cases (show u = Value.none from rx); exact PySem.W.kia_one PySem.W.kitx_none I.kIn True.intro e (fun z => nomatch z) h
  | bl y => cases (show u = Value.bool y from rx); exact PySem.W.kia_one PySem.W.kitx_bool I.kIn True.intro e (fun z => nomatch z) h
  | int i => obtain ⟨t, q⟩ := (show ∃ t, u = Value.int i t from rx); cases q; exact PySem.W.kia_one PySem.W.kitx_int I.kIn True.intro e (fun z => nomatch z) h
  | str y => obtain ⟨t, q⟩ := (show ∃ t, u = Value.str y t from rx); cases q; exact PySem.W.kia_one PySem.W.kitx_str I.kIn True.intro e (fun z => nomatch z) h
  | flt y => obtain ⟨t, q⟩ := (show ∃ t, u = Value.float y t from rx); cases q; exact PySem.W.kia_one PySem.W.kitx_float I.kIn True.intro e (fun z => nomatch z) h
  | @lst a xs ea =>
    cases (show u = Value.ref a from rx)
    obtain ⟨_, _, n, _, h1⟩ := (show ObjOk X.prog X.w H s.heap a (.lst xs) from I.hok a _ ea)
    exact PySem.W.kia_one PySem.W.kitx_list I.kIn ⟨_, h1, rfl⟩ e (fun z => nomatch z) h
  | @frz a ob xs ea =>
    cases (show u = Value.ref a from rx)
    obtain ⟨_, _, _, n, _, h1⟩ := (show ObjOk X.prog X.w H s.heap a (.frz ob (.lst xs)) from I.hok a _ ea)
    exact PySem.W.kia_one PySem.W.kitx_list I.kIn ⟨_, h1, rfl⟩ e (fun z => nomatch z) h
  | @tup a xs ea =>
    cases (show u = Value.ref a from rx)
    obtain ⟨_, _, _, p⟩ := (show ObjOk X.prog X.w H s.heap a (.tup xs) from I.hok a _ ea)
    obtain ⟨o, h1, h2, _⟩ := p.1
    exact PySem.W.kia_one PySem.W.kitx_tuple I.kIn ⟨o, h1, h2⟩ e (fun z => nomatch z) h
  | @dK a kvs ea =>
    cases (show u = Value.ref a from rx)
    obtain ⟨_, _, vs, _, p⟩ := (show ObjOk X.prog X.w H s.heap a (.dK kvs) from I.hok a _ ea)
    obtain ⟨o, es, ep, h1, h2, _⟩ := p
    exact PySem.W.kia_one PySem.W.kitx_dict I.kIn ⟨o, h1, h2.1⟩ e (fun z => nomatch z) h
  | @dT a kvs ea =>
    cases (show u = Value.ref a from rx)
    obtain ⟨_, _, xs, _, o, es, ep, h1, h2, _⟩ := (show ObjOk X.prog X.w H s.heap a (.dT kvs) from I.hok a _ ea)
    exact PySem.W.kia_one PySem.W.kitx_dict I.kIn ⟨o, h1, h2.1⟩ e (fun z => nomatch z) h
  | @ins a C dx fs ea cl ha hn htk hm =>
    cases (show u = Value.ref a from rx)
    obtain ⟨mA, O, _⟩ := ins_get I.hok ea
    obtain ⟨od, J, _⟩ := O.look
    exact PySem.W.kia_one (PySem.W.kitx_own (cl.get _) cl.hd ha hn htk hm) I.kIn J e (fun z => nomatch z) h
end
structure Room (k : Nat) (A : Around) : Prop where
  hd : A.handled = none
  dp : A.depth + 3 * k + 5 < recursionLimit
  un : A.units + 16 * k + 200 < cLine
  gd : A.guards = some []
theorem Room.mono {j k : Nat} {A : Around} (r : Room k A) (h : j ≤ k) : Room j A := ⟨r.hd, by have := r.dp; omega, by have := r.un; omega, r.gd⟩
theorem Room.deeper {k : Nat} {A : Around} (r : Room (k + 1) A) (env : Env) : Room k (A.deeper env) :=
  ⟨r.hd, by have := r.dp; show A.depth + 1 + 3 * k + 5 < _; omega, by have := r.un; show A.units + 3 + 16 * k + 200 < _; omega, r.gd⟩
theorem Room.in1 {k : Nat} {A : Around} (r : Room (k + 1) A) : Room k A.in1 :=
  ⟨r.hd, by have := r.dp; show A.depth + 3 * k + 5 < _; omega, by have := r.un; show A.units + 1 + 16 * k + 200 < _; omega, r.gd⟩
theorem make_depth {A : Around} {C : Addr} {us : List Value} {kw : List (Str × Value)} : (A.under (.builtin "type.__call__" ⟨.ref C :: us, kw⟩)).depth = A.depth + 1 := by
  first | rfl | simp [Around.under, Code.weight, Code.isCreation, Code.isGuard, Code.isCaller, Code.frames, Code.isFrame, guardIds]
theorem make_units {A : Around} {C : Addr} {us : List Value} {kw : List (Str × Value)} : (A.under (.builtin "type.__call__" ⟨.ref C :: us, kw⟩)).units = A.units + 1 := by
  first | rfl | simp [Around.under, Code.cUnits, Code.frames, Code.isFrame]
theorem make_guards {A : Around} {C : Addr} {us : List Value} {kw : List (Str × Value)} : (A.under (.builtin "type.__call__" ⟨.ref C :: us, kw⟩)).guards = A.guards := by
  have hg : (Code.builtin "type.__call__" ⟨.ref C :: us, kw⟩).guards = [] := by first | rfl | simp [Code.guards, Code.isGuard, guardIds]
  show pushGuards (Code.builtin "type.__call__" ⟨.ref C :: us, kw⟩).guards A.guards = A.guards
  rw [hg]
  cases A.guards <;> rfl
theorem Room.make {k : Nat} {A : Around} (r : Room (k + 1) A) (C : Addr) (us : List Value) (kw : List (Str × Value)) : Room k (A.under (.builtin "type.__call__" ⟨.ref C :: us, kw⟩)) :=
  ⟨r.hd, by have := r.dp; rw [make_depth]; omega, by have := r.un; rw [make_units]; omega, by rw [make_guards]; exact r.gd⟩
theorem Room.depth {k : Nat} {A : Around} (r : Room k A) : A.depth < recursionLimit := by have := r.dp; omega
theorem Room.units {k : Nat} {A : Around} (r : Room k A) : A.units + 64 < cLine := by have := r.un; omega
def tNil : TA := fun _ H Q => Q [] H
def tCons (ta : TE) (tr : TA) : TA := fun σ H Q => ta σ H fun x H1 => tr σ H1 fun xs H2 => Q (x :: xs) H2
section
variable {X : Cx} {e : Expr} {es : List Expr} {te : TE} {t : TA} {pos : Pos}
theorem pa_nil : PA X [] tNil := fun _ _ _ _ H Q I h => Calls.spliced_nil ⟨[], H, I, .nil, h⟩
theorem pa_cons (ha : PE X e te) (hr : PA X es t) (hs : starEach (e :: es) X.env = (false, eval e X.env) :: starEach es X.env := by rfl) : PA X (e :: es) (tCons te t) := by
  intro pos pins s σ H Q I h
  rw [hs]
  show wpAny _ _ (spliced ((false, eval e X.env) :: backTo pos (starEach es X.env))) _ _ s
  refine Calls.spliced_cons (thn (ha pins s σ H _ I h) fun u s1 ⟨x, H1, I1, r1, q1⟩ => ?_)
  exact thn (hr pos pins s1 σ H1 _ I1 q1) fun us s2 ⟨xs, H2, I2, r2, q2⟩ => ⟨x :: xs, H2, I2, .cons r1 r2, q2⟩
def tTup (t : TA) : TE := fun σ H Q => t σ H fun xs H1 => xs.length ≤ sizeLine ∧ ∀ p, H1 p = none → Q (.ref p) (upd H1 p (.tup xs))
def tLst (t : TA) : TE := fun σ H Q => t σ H fun xs H1 => xs.length ≤ sizeLine ∧ ∀ p, H1 p = none → Q (.ref p) (upd H1 p (.lst xs))
theorem pe_tup {x1} (h : PA X es t) : PE X (.Tuple es x1 pos) (tTup t) := by
  intro pins s σ H Q I hq
  refine wpAny_Tuple_spliced (thn (h pos pins s σ H _ I hq) fun us s1 ⟨xs, H1, I1, r, z, q⟩ => ⟨by rw [← r.length]; exact z, ?_⟩)
  have hf : H1 s1.heap.objs.size = none := I1.hok.fresh (Nat.le_refl _)
  refine ⟨.ref s1.heap.objs.size, upd H1 s1.heap.objs.size (.tup xs), I1.laid (t' := s1.toks) (fun b u e => Heap.get?_push_of_some _ e) (Nat.le_refl _) ?_, rfl, q _ hf⟩
  exact ⟨z, us, r, TupN.new _ _⟩
theorem pe_lst (h : PA X es t) : PE X (.List es pos) (tLst t) := by
  intro pins s σ H Q I hq
  refine wpAny_List_spliced (thn (h pos pins s σ H _ I hq) fun us s1 ⟨xs, H1, I1, r, z, q⟩ => ⟨by rw [← r.length]; exact z, ?_⟩)
  have hf : H1 s1.heap.objs.size = none := I1.hok.fresh (Nat.le_refl _)
  refine ⟨.ref s1.heap.objs.size, upd H1 s1.heap.objs.size (.lst xs), I1.laid (t' := s1.toks) (fun b u e => Heap.get?_push_of_some _ e) (Nat.le_refl _) ?_, rfl, q _ hf⟩
  exact ⟨z, us, 0, r, Heap.get?_push_size _ rfl⟩
end
abbrev Sp := List V → Hp → VK → XK → Prop
abbrev CXT := List Env → Hp → Shared → XK → Value → Shared → Prop
structure Env0 (P : Program) (w : World) (K : PySem.W.Frag) (mg : Str → Option Value) (base : Heap) (A : Around) (outer : List Env) (s : Shared) (H : Hp) : Prop where
  frames : A.frames = some outer
  mod : Mod K mg base
  bs : ∀ b o, base.get? b = some o → s.heap.get? b = some o ∧ H b = none
  bsz : base.objs.size ≤ s.heap.objs.size
  funs : s.heap.FunFrames base outer
  frf : ∀ b ∈ frs outer, H b = none
  hok : HOk P w H s.heap
  bare : AllBare s.gens
def CE (outer : List Env) (P : Program) (w : World) (H : Hp) (s : Shared) (Q : VK) (u : Value) (s' : Shared) : Prop :=
  ∃ v H', s'.os = s.os ∧ AllBare s'.gens ∧ Un (frs outer) [] H H' s.heap s'.heap ∧ HOk P w H' s'.heap ∧ RelV v u ∧ Q v H'
def CR (CX : CXT) (outer : List Env) (P : Program) (w : World) (H : Hp) (s : Shared) (Q : VK) (E : XK) (r : Result) (s' : Shared) : Prop :=
  match r with
  | .ok (.ret u) => CE outer P w H s Q u s'
  | .ok _ => False
  | .error e => CX outer H s E e s'
structure FnOk (P : Program) (w : World) (K : PySem.W.Frag) (mg : Str → Option Value) (base : Heap) (CX : CXT) (k : Nat) (f : Addr) (fd : FuncData) (ps : List Str) (sp : Sp) : Prop where
  len : ∀ vs H Q E, sp vs H Q E → vs.length = ps.length
  run : ∀ (A : Around) (outer : List Env) (s : Shared) (H : Hp) (args : Args) (us : List Value) (vs : List V) (Q : VK) (E : XK), Room k A → Env0 P w K mg base A outer s H → BindsTo s fd args (ps.zip us) → Vals vs us → sp vs H Q E →
    codeAny (model P w) A (.call (.ref f) args) (CR CX outer P w H s Q E) s
theorem FnOk.mono {P : Program} {w : World} {K : PySem.W.Frag} {mg : Str → Option Value} {base : Heap} {CX : CXT} {j k : Nat} {f : Addr} {fd : FuncData} {ps : List Str} {sp : Sp} (F : FnOk P w K mg base CX j f fd ps sp) (h : j ≤ k) :
    FnOk P w K mg base CX k f fd ps sp := ⟨F.len, fun A outer s H args us vs Q E hr => F.run A outer s H args us vs Q E (hr.mono h)⟩
theorem FnOk.imp {P : Program} {w : World} {K : PySem.W.Frag} {mg : Str → Option Value} {base : Heap} {CX : CXT} {k : Nat} {f : Addr} {fd : FuncData} {ps : List Str} {sp sp' : Sp} (F : FnOk P w K mg base CX k f fd ps sp)
    (h : ∀ vs H Q E, sp' vs H Q E → sp vs H Q E) : FnOk P w K mg base CX k f fd ps sp' :=
  ⟨fun vs H Q E q => F.len vs H Q E (h _ _ _ _ q), fun A outer s H args us vs Q E hr he hb hv hs => F.run A outer s H args us vs Q E hr he hb hv (h _ _ _ _ hs)⟩
theorem Env0.make {P : Program} {w : World} {K : PySem.W.Frag} {mg : Str → Option Value} {base : Heap} {A : Around} {outer : List Env} {s : Shared} {H : Hp} (e : Env0 P w K mg base A outer s H) (C : Addr) (us : List Value) (kw : List (Str × Value)) :
    Env0 P w K mg base (A.under (.builtin "type.__call__" ⟨.ref C :: us, kw⟩)) outer s H := ⟨by first | exact e.frames | (simpa [Around.under, Code.envs, Code.isFrame, pushEnvs] using e.frames), e.mod, e.bs, e.bsz, e.funs, e.frf, e.hok, e.bare⟩
section
variable {X : Cx} {pins : List (Addr × Obj)} {σ : St} {H : Hp} {s s' : Shared}
theorem Inv.env0 (I : Inv X pins σ H s) : Env0 X.prog X.w X.K X.mg X.base X.A X.stack s H :=
  ⟨I.ok.frames, I.ok.mod, I.bs, Nat.le_trans I.ok.bsz I.sz, I.stack, I.stkFree, I.hok, I.bare⟩
theorem Inv.after {Q : VK} {u : Value} (I : Inv X pins σ H s) (h : CE X.stack X.prog X.w H s Q u s') : EP X pins σ Q u s' := by
  obtain ⟨v, H', os, bare, un, hok, r, q⟩ := h
  obtain ⟨hh, g, d, t, os'⟩ := s'
  obtain rfl : os' = s.os := os
  exact ⟨v, H', I.call (h' := hh) (g' := g) (d' := d) (t' := t) (ch := []) un hok bare (fun b z => absurd z (by simp)), r, q⟩
end
def tCall (sp : Sp) (dvs : List V) (E : XK) (t : TA) : TE := fun σ H Q => t σ H fun vs H1 => sp (vs ++ dvs) H1 Q E
def tMeth (C : Addr) (m : Str) (sp : Sp) (dvs : List V) (E : XK) (ta : TE) (t : TA) : TE := fun σ H Q => ta σ H fun x H1 => ∃ a dx fs, x = .ref a ∧ H1 a = some (.ins C dx fs) ∧ fs.lookup m = none ∧
  t σ H1 fun vs H2 => sp (x :: (vs ++ dvs)) H2 Q E
def tMake (C : Addr) (sp : Sp) (dvs : List V) (E : XK) (t : TA) : TE := fun σ H Q => t σ H fun vs H1 => ∀ x dx, H1 x = none → H1 dx = none → dx ≠ x →
  sp (.ref x :: (vs ++ dvs)) (upd (upd H1 dx (.own x)) x (.ins C dx [])) (fun v H2 => v = .non ∧ Q (.ref x) H2) E
def Binds (K : PySem.W.Frag) (fd : FuncData) (ps : List Str) (ds : List Value) : Prop :=
  ∀ (s : Shared) (us : List Value), K.In s.heap → (us ++ ds).length = ps.length → BindsTo s fd ⟨us, []⟩ (ps.zip (us ++ ds))
theorem Binds.all {K : PySem.W.Frag} {fd : FuncData} {ps : List Str} (h : ∀ us : List Value, us.length = ps.length → bindArgs fd ⟨us, []⟩ = pure (ps.zip us)) : Binds K fd ps [] := fun s us _ hl => by
  rw [List.append_nil] at hl ⊢
  exact .of_eq (h us hl)
def Passes (CX : CXT) (X : Cx) (E : XK) : Prop := ∀ (pins : List (Addr × Obj)) (σ : St) (H : Hp) (s : Shared) (e : Value) (s' : Shared), Inv X pins σ H s → CX X.stack H s E e s' → X.xe e s'
section
variable {X : Cx} {CX : CXT} {k : Nat} {f C : Addr} {fd : FuncData} {ps : List Str} {sp : Sp} {dvs : List V} {ds : List Value} {E : XK} {x m : Str} {p pos apos : Pos} {e o : Expr} {es : List Expr} {ta : TE} {t : TA}
theorem run_fn {pins : List (Addr × Obj)} {σ : St} {H : Hp} {s : Shared} {Q : VK} {us : List Value} {vs : List V} (F : FnOk X.prog X.w X.K X.mg X.base CX k f fd ps sp) (hr : Room k X.A) (hb : Binds X.K fd ps ds) (hd : Vals dvs ds) (hx : Passes CX X E)
    (I : Inv X pins σ H s) (r : Vals vs us) (h : sp (vs ++ dvs) H Q E) : wpAny (model X.prog X.w) X.A (call (.ref f) us) (EP X pins σ Q) X.xe s := by
  have r2 : Vals (vs ++ dvs) (us ++ ds) := r.append hd
  have hl : (us ++ ds).length = ps.length := by rw [← r2.length]; exact F.len _ _ _ _ h
  refine wpAny_call (codeAny_mono (F.run X.A X.stack s H ⟨us, []⟩ (us ++ ds) (vs ++ dvs) Q E hr I.env0 (hb s us I.kIn hl) r2 h) fun r s' hq => ?_)
  cases r with
  | error e => exact hx pins σ H s e s' I hq
  | ok fl =>
    cases fl with
    | ret u => exact I.after hq
    | next => exact False.elim hq
    | brk => exact False.elim hq
    | cont => exact False.elim hq
theorem pe_call (F : FnOk X.prog X.w X.K X.mg X.base CX k f fd ps sp) (hr : Room k X.A) (hg : Gl X x) (hm : X.mg x = some (.ref f)) (hk : PySem.W.keepIn X.K (.ref f) = true) (hb : Binds X.K fd ps ds) (hd : Vals dvs ds) (hx : Passes CX X E)
    (ha : PA X (e :: es) t) (hdb : (x == ("__debug__" : Str)) = false := by decide) (he : starEach (e :: es) X.env = (false, eval e X.env) :: starEach es X.env := by rfl) (hpl : (backTo pos (starEach es X.env)).any (·.1) = false := by rfl) :
    PE X (.Call (.Name x p) (e :: es) [] pos) (tCall sp dvs E t) := by
  intro pins s σ H Q I h
  refine wpAny_Call_Name_kw (ld_glob I hg hm ?_ hdb)
  refine PySem.W.callWith_K (h₀ := X.base) I.ok.mod.kin hk (thn (ha pos pins s σ H _ I h) fun us s1 ⟨vs, H1, I1, r, q⟩ => ⟨I1.kIn, ?_⟩) he hpl
  exact run_fn F hr hb hd hx I1 r q
theorem pe_meth {pl : Sem Bool} (he : PE X o ta) (c : Cls X.K C) (hm : Meth X.K C m f) (F : FnOk X.prog X.w X.K X.mg X.base CX k f fd ps sp) (hr : Room k X.A) (hb : Binds X.K fd ps ds) (hd : Vals dvs ds) (hx : Passes CX X E) (ha : PA X (e :: es) t)
    (hst : starEach (e :: es) X.env = (false, eval e X.env) :: starEach es X.env := by rfl) (hpl : (backTo pos (starEach es X.env)).any (·.1) = false := by rfl)
    (ht : eval (.Call (.Attribute o m apos) (e :: es) [] pos) X.env = (do
      let ov ← eval o X.env
      standAt apos.atName
      let (f, first) ← holding [ov] (getMethod ov m pl)
      callWith pos f first (backTo pos (starEach (e :: es) X.env)) (backToKw pos (keywordEach [] X.env))) := by rfl) :
    PE X (.Call (.Attribute o m apos) (e :: es) [] pos) (tMeth C m sp dvs E ta t) := by
  intro pins s σ H Q I h
  refine PySem.W.methodCall_KW (pl := pl) (thn (he pins s σ H _ I h) fun u s1 ⟨x, H1, I1, rx, a, dx, fs, ex, ea, l, q⟩ => ?_) ht
  subst ex
  obtain rfl : u = Value.ref a := rx
  refine getmeth_ok I1 ea c hm l ?_
  refine PySem.W.callWith_K (first := [.ref a]) (h₀ := X.base) I.ok.mod.kin hm.kp (thn (ha pos pins s1 σ H1 _ I1 q) fun us s2 ⟨vs, H2, I2, r, q2⟩ => ⟨I2.kIn, ?_⟩) hst hpl
  exact run_fn (us := .ref a :: us) (vs := .ref a :: vs) F hr hb hd hx I2 (.cons rfl r) q2
theorem pe_meth0 {pl : Sem Bool} (he : PE X o ta) (c : Cls X.K C) (hm : Meth X.K C m f) (F : FnOk X.prog X.w X.K X.mg X.base CX k f fd ps sp) (hr : Room k X.A) (hb : Binds X.K fd ps ds) (hd : Vals dvs ds) (hx : Passes CX X E)
    (ht : eval (.Call (.Attribute o m apos) [] [] pos) X.env = (do
      let ov ← eval o X.env
      standAt apos.atName
      let (f, first) ← holding [ov] (getMethod ov m pl)
      callWith pos f first (backTo pos (starEach [] X.env)) (backToKw pos (keywordEach [] X.env))) := by rfl) :
    PE X (.Call (.Attribute o m apos) [] [] pos) (tMeth C m sp dvs E ta tNil) := by
  intro pins s σ H Q I h
  refine PySem.W.methodCall_KW (pl := pl) (thn (he pins s σ H _ I h) fun u s1 ⟨x, H1, I1, rx, a, dx, fs, ex, ea, l, q⟩ => ?_) ht
  subst ex
  obtain rfl : u = Value.ref a := rx
  refine getmeth_ok I1 ea c hm l ?_
  exact PySem.W.callWith_K0 (first := [.ref a]) I1.kIn hm.kp (run_fn (us := [.ref a]) (vs := [.ref a]) F hr hb hd hx I1 (.cons rfl .nil) q)
structure Mk (K : PySem.W.Frag) (C f : Addr) : Prop where
  makes : PySem.W.makesIn K C = true
  init : PySem.W.findIn K (.ref C) "__init__" = some (some (.ref f))
  fn : PySem.W.isFn K (.ref f) = true
  kp : PySem.W.keepIn K (.ref C) = true
theorem run_make {pins : List (Addr × Obj)} {σ : St} {H : Hp} {s : Shared} {Q : VK} {us : List Value} {vs : List V} (M : Mk X.K C f) (F : FnOk X.prog X.w X.K X.mg X.base CX k f fd ps sp) (hr : Room (k + 1) X.A) (hb : Binds X.K fd ps ds) (hd : Vals dvs ds)
    (hx : Passes CX X E) (I : Inv X pins σ H s) (r : Vals vs us)
    (h : ∀ x dx, H x = none → H dx = none → dx ≠ x → sp (.ref x :: (vs ++ dvs)) (upd (upd H dx (.own x)) x (.ins C dx [])) (fun v H2 => v = .non ∧ Q (.ref x) H2) E) :
    wpAny (model X.prog X.w) X.A (call (.ref C) us) (EP X pins σ Q) X.xe s := by
  have hq := h (s.heap.objs.size + 1) s.heap.objs.size (I.hok.fresh (Nat.le_succ _)) (I.hok.fresh (Nat.le_refl _)) (Nat.ne_of_lt (Nat.lt_succ_self _))
  have I2 := Inv.made (C := C) I
  have r2 : Vals (V.ref (s.heap.objs.size + 1) :: (vs ++ dvs)) (Value.ref (s.heap.objs.size + 1) :: (us ++ ds)) := .cons rfl (r.append hd)
  have hl : (Value.ref (s.heap.objs.size + 1) :: us ++ ds).length = ps.length := by
    have e := r2.length
    rw [F.len _ _ _ _ hq] at e
    exact e.symm
  refine wpAny_call (make_map (f := f) I.kIn M.makes M.init (beq_iff_eq.mp M.fn) (codeAny_mono (F.run _ X.stack _ _ ⟨Value.ref (s.heap.objs.size + 1) :: us, []⟩ (Value.ref (s.heap.objs.size + 1) :: (us ++ ds)) _ _ E (hr.make C us [])
    (I2.env0.make C us []) (hb _ (Value.ref (s.heap.objs.size + 1) :: us) I2.kIn hl) r2 hq) fun r s' hq' => ?_))
  cases r with
  | error e => exact hx pins σ _ _ e s' I2 hq'
  | ok fl =>
    cases fl with
    | ret u =>
      obtain ⟨v, H', I3, rv, ev, q3⟩ := I2.after hq'
      subst ev
      exact ⟨rv, ⟨V.ref (s.heap.objs.size + 1), H', I3, rfl, q3⟩⟩
    | next => exact False.elim hq'
    | brk => exact False.elim hq'
    | cont => exact False.elim hq'
theorem pe_make (M : Mk X.K C f) (F : FnOk X.prog X.w X.K X.mg X.base CX k f fd ps sp) (hr : Room (k + 1) X.A) (hg : Gl X x) (hm : X.mg x = some (.ref C)) (hb : Binds X.K fd ps ds) (hd : Vals dvs ds) (hx : Passes CX X E)
    (ha : PA X (e :: es) t) (hdb : (x == ("__debug__" : Str)) = false := by decide) (he : starEach (e :: es) X.env = (false, eval e X.env) :: starEach es X.env := by rfl) (hpl : (backTo pos (starEach es X.env)).any (·.1) = false := by rfl) :
    PE X (.Call (.Name x p) (e :: es) [] pos) (tMake C sp dvs E t) := by
  intro pins s σ H Q I h
  refine wpAny_Call_Name_kw (ld_glob I hg hm ?_ hdb)
  refine PySem.W.callWith_K (h₀ := X.base) I.ok.mod.kin M.kp (thn (ha pos pins s σ H _ I h) fun us s1 ⟨vs, H1, I1, r, q⟩ => ⟨I1.kIn, ?_⟩) he hpl
  exact run_make M F hr hb hd hx I1 r q
end
section
variable {X : Cx} {CX : CXT} {k : Nat} {f C : Addr} {fd : FuncData} {ps ks : List Str} {sp : Sp} {E : XK} {x m : Str} {p pos apos kpos : Pos} {e o : Expr} {es : List Expr} {kws : List Keyword} {te ta : TE} {t tk : TA} {nm : Option Str}
structure KBinds (K : PySem.W.Frag) (fd : FuncData) (ps ks : List Str) (g : List Value → List Value → List Value) (gV : List V → List V → List V) : Prop where
  to : ∀ (s : Shared) (us ws : List Value), K.In s.heap → (g us ws).length = ps.length → BindsTo s fd ⟨us, ks.zip ws⟩ (ps.zip (g us ws))
  rel : ∀ {vs : List V} {us : List Value} {zs : List V} {ws : List Value}, Vals vs us → Vals zs ws → Vals (gV vs zs) (g us ws)
variable {g : List Value → List Value → List Value} {gV : List V → List V → List V}
end
structure FnScope (N P : List Str) (sc : Scope) : Prop where
  kind : sc.kind = .function
  co : sc.isCoroutine = false
  gen : sc.isGenerator = false
  nd : N.Nodup
  pre : N.take P.length = P
  par : ∀ x ∈ P, sc.names.lookup x = some .local ∨ sc.names.lookup x = some .cell
  nofree : ∀ y ∈ sc.names, y.2 ≠ .free
theorem bindL_out {kindOf : Str → Option NameKind} {x : Str} : ∀ {binds : List (Str × Value)} {m : Str → Option Value}, (∀ v, (x, v) ∉ binds) → bindL kindOf binds m x = m x
  | [], _, _ => rfl
  | (n, v) :: r, m, h => by
    unfold bindL
    rw [bindL_out fun w hw => h w (List.mem_cons_of_mem _ hw)]
    split
    · have : x ≠ n := by rintro rfl; exact h v List.mem_cons_self
      simp [this]
    · rfl
theorem bindC_out {kindOf : Str → Option NameKind} {x : Str} : ∀ {binds : List (Str × Value)} {m : Str → Option Value}, (∀ v, (x, v) ∉ binds) → bindC kindOf binds m x = m x
  | [], _, _ => rfl
  | (n, v) :: r, m, h => by
    unfold bindC
    rw [bindC_out fun w hw => h w (List.mem_cons_of_mem _ hw)]
    split
    · rfl
    · have : x ≠ n := by rintro rfl; exact h v List.mem_cons_self
      simp [this]
theorem bindL_get {kindOf : Str → Option NameKind} {x : Str} {v : Value} : ∀ {P : List Str} {vs : List Value} {i : Nat} {m : Str → Option Value}, P.Nodup → P[i]? = some x → vs[i]? = some v → kindOf x = some .local →
    bindL kindOf (P.zip vs) m x = some v
  | [], _, _, _, _, h, _, _ => by simp at h
  | _ :: _, [], _, _, _, _, h, _ => by simp at h
  | p :: P, w :: vs, 0, m, nd, h1, h2, hk => by
    simp at h1 h2; subst h1; subst h2
    show bindL kindOf ((p, w) :: P.zip vs) m p = _
    unfold bindL
    rw [bindL_out fun v hv => (List.nodup_cons.mp nd).1 (List.of_mem_zip hv).1, if_pos hk]
    simp
  | p :: P, w :: vs, i + 1, m, nd, h1, h2, hk => by
    show bindL kindOf ((p, w) :: P.zip vs) m x = _
    unfold bindL
    exact bindL_get (i := i) (List.nodup_cons.mp nd).2 (by simpa using h1) (by simpa using h2) hk
theorem bindC_get {kindOf : Str → Option NameKind} {x : Str} {v : Value} : ∀ {P : List Str} {vs : List Value} {i : Nat} {m : Str → Option Value}, P.Nodup → P[i]? = some x → vs[i]? = some v → kindOf x ≠ some .local →
    bindC kindOf (P.zip vs) m x = some v
  | [], _, _, _, _, h, _, _ => by simp at h
  | _ :: _, [], _, _, _, _, h, _ => by simp at h
  | p :: P, w :: vs, 0, m, nd, h1, h2, hk => by
    simp at h1 h2; subst h1; subst h2
    show bindC kindOf ((p, w) :: P.zip vs) m p = _
    unfold bindC
    rw [bindC_out fun v hv => (List.nodup_cons.mp nd).1 (List.of_mem_zip hv).1, if_neg hk]
    simp
  | p :: P, w :: vs, i + 1, m, nd, h1, h2, hk => by
    show bindC kindOf ((p, w) :: P.zip vs) m x = _
    unfold bindC
    exact bindC_get (i := i) (List.nodup_cons.mp nd).2 (by simpa using h1) (by simpa using h2) hk
def start (N : List Str) (vs : List V) : St := vs.map some ++ List.replicate (N.length - vs.length) none
def cxOf (CX : CXT) (P : Program) (w : World) (K : PySem.W.Frag) (mg : Str → Option Value) (base : Heap) (N : List Str) (qual : Str) (scope : Scope) (f : Addr) (cd : Value) (A : Around) (outer : List Env) (s : Shared) (H : Hp) (E : XK) : Cx where
  prog := P
  w := w
  K := K
  mg := mg
  base := base
  A := A.deeper (envOfC qual scope s.heap.objs.size f cd)
  N := N
  s₀ := s
  H₀ := H
  env := envOfC qual scope s.heap.objs.size f cd
  outer := outer
  stack := envOfC qual scope s.heap.objs.size f cd :: outer
  ex := []
  calm := true
  fn := fun _ => true
  pn := []
  xe := fun e s' => wpAny (model P w) (A.deeper (envOfC qual scope s.heap.objs.size f cd)) (leaving (envOfC qual scope s.heap.objs.size f cd) e) (fun _ s'' => CX outer H s E e s'') (fun e' s'' => CX outer H s E e' s'') s'
theorem cell_has {sc : Scope} {n : Nat} {x : Str} (h : sc.names.lookup x = some .cell) : ∃ c, (cellsFrom n sc.names []).lookup x = some c := by
  have q := PySem.W.cellsFrom_some sc.names n [] (.inl h)
  exact Option.isSome_iff_exists.mp q
theorem inv_start {CX : CXT} {P : Program} {w : World} {K : PySem.W.Frag} {mg : Str → Option Value} {base : Heap} {N ps : List Str} {qual : Str} {scope : Scope} {f : Addr} {cd : Value} {A : Around} {outer : List Env} {s s1 : Shared} {H : Hp} {E : XK} {us : List Value} {vs : List V}
    (S : FnScope N ps scope) (hd : A.handled = none) (e0 : Env0 P w K mg base A outer s H) (hl : vs.length = ps.length) (r : Vals vs us)
    (x : InCallC s s.heap.objs.size (bindL (envOfC qual scope s.heap.objs.size f cd).kindOf (ps.zip us) fun _ => none) (cellsFrom (s.heap.objs.size + 1) scope.names []) (bindC (envOfC qual scope s.heap.objs.size f cd).kindOf (ps.zip us) fun _ => none) s1) :
    Inv (cxOf CX P w K mg base N qual scope f cd A outer s H E) [] (start N vs) H s1 := by
  have hpl : ps.length ≤ N.length := by have := congrArg List.length S.pre; rw [List.length_take] at this; omega
  obtain ⟨h1, tk, rfl, hk⟩ := x.done
  have noA : ∀ b : Addr, b ∉ (cxOf CX P w K mg base N qual scope f cd A outer s H E).ex := fun b z => absurd (show b ∈ ([] : List Addr) from z) (by simp)
  refine ⟨⟨e0.mod, S.kind, rfl, rfl, Nat.le_refl _, fun y z c h1 h2 => ?_, fun y hy => ?_, fun y c _ h => ?_, fun _ => hd, Around.frames_deeper e0.frames, .inr ⟨rfl, rfl⟩, fun b z => absurd z (noA b), e0.bs, e0.bsz, fun b _ _ => noA b, fun b z => absurd z (noA b), e0.funs, e0.frf⟩,
    rfl, e0.bare, Un.kept hk, ⟨_, x.toInCall.ns, fun i y v h1 h2 h3 => ?_⟩, fun y c h => ⟨_, x.cell y c h⟩, e0.hok.fresh (Nat.le_refl _), fun y c h => ?_, fun p hp => absurd (show p ∈ ([] : List (Addr × Obj)) from hp) (by simp), e0.hok.kept hk, ?_⟩
  · exact name_of_addr x.apart (PySem.mem_of_lookup h1) (PySem.mem_of_lookup h2)
  · have hy : scope.names.lookup y = some .cell ∨ scope.names.lookup y = some .free := hy
    rcases hy with hy | hy
    · exact cell_has hy
    · exact absurd rfl (S.nofree _ (PySem.mem_of_lookup hy))
  · exact Nat.le_of_lt (x.above y c (PySem.mem_of_lookup h))
  · have hi : i < vs.length := by
      unfold start at h2
      by_cases hi : i < vs.length
      · exact hi
      · rw [List.getElem?_append_right (by simpa using hi)] at h2
        rw [List.getElem?_replicate] at h2
        split at h2 <;> cases h2
    have ha : vs[i]? = some v := by
      unfold start at h2
      rw [List.getElem?_append_left (by simpa using hi), List.getElem?_map] at h2
      cases e : vs[i]? with
      | none => rw [e] at h2; cases h2
      | some a => rw [e] at h2; cases h2; rfl
    obtain ⟨u, hu, rv⟩ := r.get ha
    have hp : ps[i]? = some y := by
      rw [← S.pre, List.getElem?_take_of_lt (by omega)]; exact h1
    have ndP : ps.Nodup := by rw [← S.pre]; exact S.nd.sublist (List.take_sublist _ _)
    refine ⟨u, rv, ?_⟩
    rcases S.par y (List.mem_of_getElem? hp) with k | k
    · exact .inl ⟨k, bindL_get ndP hp hu k⟩
    · obtain ⟨c, e⟩ := cell_has (n := s.heap.objs.size + 1) k
      refine .inr ⟨.inl k, c, e, ?_⟩
      have q := x.cell y c e
      rw [bindC_get ndP hp hu (by show scope.names.lookup y ≠ _; rw [k]; decide)] at q
      exact q
  · exact e0.hok.fresh (Nat.le_of_lt (x.above y c (PySem.mem_of_lookup h)))
  · unfold start
    show _ = N.length
    rw [List.length_append, List.length_map, List.length_replicate]
    omega
theorem fn_of {CX : CXT} {P : Program} {w : World} {K : PySem.W.Frag} {mg : Str → Option Value} {base : Heap} {k : Nat} {f : Addr} {name qual : Str} {params : Arguments} {body : List Stmt} {scope : Scope} {dV kV doc pm cdv ct oc : Value} {an od : Option Addr}
    {osl : Array (Option Value)} {N ps : List Str} {sp : Sp} (lk : K.lookup f = some ⟨oc, od, .func (PySem.W.fnOf name qual params body scope dV kV doc pm an cdv ct), osl⟩) (hcd : PySem.W.codeIn K cdv qual = true) (S : FnScope N ps scope)
    (len : ∀ vs H Q E, sp vs H Q E → vs.length = ps.length)
    (hbody : ∀ (A : Around) (outer : List Env) (s : Shared) (H : Hp) (vs : List V) (Q : VK) (E : XK), Room k (A.deeper (envOfC qual scope s.heap.objs.size f cdv)) → sp vs H Q E →
      ∃ t, PSs (cxOf CX P w K mg base N qual scope f cdv A outer s H E) body t ∧ t { nx := fun _ H' => Q .non H', rt := Q } (start N vs) H) :
    FnOk P w K mg base CX (k + 1) f (PySem.W.fnOf name qual params body scope dV kV doc pm an cdv ct) ps sp := by
  refine ⟨len, fun A outer s H args us vs Q E hr e0 hb r hsp => ?_⟩
  have hl := len _ _ _ _ hsp
  have KX : K.In s.heap := e0.mod.kin.keeps fun b o e => (e0.bs b o e).1
  have lim : s.heap.NoLimit := e0.mod.nolimit.keeps fun b o e => (e0.bs b o e).1
  have hkind : ∀ y ∈ ps.zip us, scope.names.lookup y.1 = some .local ∨ (scope.names.lookup y.1 = some .cell ∧ ((cellsFrom (s.heap.objs.size + 1) scope.names []).lookup y.1).isSome = true) := fun ⟨n, v⟩ hy => by
    rcases S.par n (List.of_mem_zip hy).1 with q | q
    · exact .inl q
    · exact .inr ⟨q, PySem.W.cellsFrom_some _ _ _ (.inl q)⟩
  refine codeAny_call_function hr.depth (KX _ _ lk) rfl S.co S.gen rfl (PySem.W.codeRec_of KX hcd) (hb _ _ _ _ ?_)
  refine wpAny_newFunctionEnv_cells S.kind hkind fun env he s1 x => ?_
  subst he
  refine ⟨lim.keeps x.toInCall.keep, codeAny_func ?_⟩
  obtain ⟨t, ht, hq⟩ := hbody A outer s H vs Q E (hr.deeper _) hsp
  have I : Inv (cxOf CX P w K mg base N qual scope f cdv A outer s H E) [] (start N vs) H s1 := inv_start S hr.hd e0 hl r x
  refine wpAny_mono (ht [] s1 (start N vs) H _ I hq) (fun fl s' hs => ?_) fun e s' hs => hs
  have fin : ∀ {σ' : St} {H' : Hp} {v : V} {u : Value}, Inv (cxOf CX P w K mg base N qual scope f cdv A outer s H E) [] σ' H' s' → RelV v u → Q v H' → CE outer P w H s Q u s' :=
    fun {σ' H' v u} J rv q => ⟨v, H', J.os, J.bare, J.base, J.hok, rv, q⟩
  cases fl with
  | ret u =>
    obtain ⟨v, σ', H', J, rv, q⟩ := hs
    exact fin J rv q
  | next =>
    obtain ⟨σ', H', J, q⟩ := hs
    exact fin (v := V.non) (u := Value.none) J rfl q
  | brk =>
    obtain ⟨_, _, _, q⟩ := hs
    exact False.elim q
  | cont =>
    obtain ⟨_, _, _, q⟩ := hs
    exact False.elim q
section
variable {X : Cx} {x : Str} {p pos : Pos} {e : Expr} {es : List Expr} {t : TA} {id T : String} {r : List V → Hp → VK → Prop}
def tCB (r : List V → Hp → VK → Prop) (t : TA) : TE := fun σ H Q => t σ H fun vs H1 => r vs H1 Q
theorem pe_callB (hc : CallR X (.builtin id) r) (hg : Gl X x) (hm : X.mg x = none) (hv : bootBuiltins x = some (.builtin id)) (ha : PA X (e :: es) t) (hn : x ≠ "__name__" := by decide) (hdb : (x == ("__debug__" : Str)) = false := by decide)
    (he : starEach (e :: es) X.env = (false, eval e X.env) :: starEach es X.env := by rfl) (hpl : (backTo pos (starEach es X.env)).any (·.1) = false := by rfl) : PE X (.Call (.Name x p) (e :: es) [] pos) (tCB r t) := by
  intro pins s σ H Q I h
  refine wpAny_Call_Name_kw (ld_blt I hg hm hv ?_ hn hdb)
  exact PyProof.Rows.callWith_builtin1 (thn (ha pos pins s σ H _ I h) fun us s1 ⟨vs, H1, I1, r1, q1⟩ => hc pins s1 σ H1 vs us Q I1 r1 q1) he hpl
theorem pe_callTy (hc : CallR X (.type T) r) (hg : Gl X x) (hm : X.mg x = none) (hv : bootBuiltins x = some (.type T)) (ha : PA X (e :: es) t) (hn : x ≠ "__name__" := by decide) (hdb : (x == ("__debug__" : Str)) = false := by decide)
    (he : starEach (e :: es) X.env = (false, eval e X.env) :: starEach es X.env := by rfl) (hpl : (backTo pos (starEach es X.env)).any (·.1) = false := by rfl) : PE X (.Call (.Name x p) (e :: es) [] pos) (tCB r t) := by
  intro pins s σ H Q I h
  refine wpAny_Call_Name_kw (ld_blt I hg hm hv ?_ hn hdb)
  exact PyProof.Rows.callWith_type1 (thn (ha pos pins s σ H _ I h) fun us s1 ⟨vs, H1, I1, r1, q1⟩ => hc pins s1 σ H1 vs us Q I1 r1 q1) he hpl
end
end L2
namespace HT
open PySem PyProof.Rows
section
open PySem.SeqAt
open PySem.AutoSeq1 (wpAny_loadPart')
open PySem.MeetsSeq PySem.MeetsSeq2 PySem.MeetsSeq3
end
section
variable {prog : Program} {w : World} {A : Around} {E : Value → Shared → Prop} {s : Shared}
theorem cat_tup {t b : Addr} {vs ws : List Value} {Q : Value → Shared → Prop} (ht : IsTup s.heap t vs.toArray) (hb : IsTup s.heap b ws.toArray) (hv : vs ≠ [])
    (h1 : ws = [] → Q (.ref t) s) (h2 : ws ≠ [] → Q (.ref s.heap.objs.size) { s with heap := s.heap.push { cls := .type "tuple", data := .seq (vs ++ ws).toArray } })
    (hsz : vs.length + ws.length ≤ sizeLine) : wpAny (model prog w) A (binaryOp .Add (.ref t) (.ref b)) Q E s := by
  obtain ⟨⟨cls, dd, data, sl⟩, ho, hc, n, hd⟩ := id ht
  obtain ⟨⟨cls2, dd2, data2, sl2⟩, ho2, hc2, n2, hd2⟩ := id hb
  simp only at hc hd hc2 hd2
  subst hc hd hc2 hd2
  have e : vs.toArray ++ ws.toArray = (vs ++ ws).toArray := by simp
  by_cases hw : ws = []
  · exact concat_meets ⟨_, ho, rfl⟩ ⟨_, ho2, rfl⟩ noFill_tuple_add seq_tuple_add PySem.F.slot_tuple_add PySem.F.entry_tuple_add (PySem.F.args_tuple_add_2 _ _)
      (tuple_addW1 t b vs.toArray ws.toArray n n2 dd dd2 sl sl2 (by simpa using hv) (by simp [hw])) ⟨ho, ho2, h1 hw⟩
  · refine concat_meets ⟨_, ho, rfl⟩ ⟨_, ho2, rfl⟩ noFill_tuple_add seq_tuple_add PySem.F.slot_tuple_add PySem.F.entry_tuple_add (PySem.F.args_tuple_add_2 _ _)
      (tuple_addW2 t b vs.toArray ws.toArray n n2 dd dd2 sl sl2 (by simpa using hv) (by simpa using hw) (by rw [List.size_toArray, List.size_toArray]; exact hsz)) ⟨ho, ho2, ?_⟩
    rw [e]
    exact h2 hw
def sIx (n d : Nat) : Option Int → Nat
  | none => d
  | some v => if v < 0 then (v + (n : Int)).toNat else min v.toNat n
theorem sIx_le (n d : Nat) (hd : d ≤ n) (o : Option Int) : sIx n d o ≤ n := by
  cases o with
  | none => exact hd
  | some v =>
    show (if v < 0 then (v + (n : Int)).toNat else min v.toNat n) ≤ n
    by_cases hv : v < 0
    · rw [if_pos hv]; omega
    · rw [if_neg hv]; exact Nat.min_le_right _ _
theorem clip_eq (v : Int) (n d : Nat) : (if v < 0 then max (v + (n : Int)) 0 else min v (n : Int)) = ((sIx n d (some v) : Nat) : Int) := by
  show (if v < 0 then max (v + (n : Int)) 0 else min v (n : Int)) = (((if v < 0 then (v + (n : Int)).toNat else min v.toNat n) : Nat) : Int)
  by_cases hv : v < 0
  · simp only [if_pos hv]; omega
  · simp only [if_neg hv]; omega
theorem adjust_gen (lo hi : Option Int) (n : Nat) : Builtin.Slice.sliceAdjust lo hi 1 (n : Int) = (((sIx n 0 lo : Nat) : Int), ((sIx n n hi : Nat) : Int)) := by
  have h1 : ¬ ((1 : Int) < 0) := by omega
  unfold Builtin.Slice.sliceAdjust
  simp only [h1, if_false]
  refine Prod.ext ?_ ?_
  · cases lo with
    | none => rfl
    | some v => exact clip_eq v n 0
  · cases hi with
    | none => rfl
    | some v => exact clip_eq v n n
theorem places_gen (i j : Nat) : Builtin.Slice.slicePlaces (i : Int) (j : Int) 1 = j - i := by
  unfold Builtin.Slice.slicePlaces
  have h1 : (1 : Int) > 0 := by omega
  simp only [h1, if_true, Int.ediv_one]
  split <;> omega
theorem slicePart_ {v : Value} {o : Option Int} {Q : Option Int → Shared → Prop} (p : IsPart v o) (h : Q o s) : wpAny (model prog w) A (Builtin.Slice.slicePartIndex v) Q E s := by
  cases p with
  | none => exact slicePart_none h
  | int i t => exact slicePart_int h
theorem sliceApplied_gen {sl : Addr} {vl vu : Value} {lo hi : Option Int} {n : Nat} {Q : Int × Int × Nat → Shared → Prop} (hs : s.heap.IsSliceOf sl vl vu .none) (pl : IsPart vl lo) (pu : IsPart vu hi)
    (h : Q (((sIx n 0 lo : Nat) : Int), 1, sIx n n hi - sIx n 0 lo) s) : wpAny (model prog w) A (Builtin.Slice.sliceApplied (.ref sl) (pure (n : Int))) Q E s := by
  obtain ⟨os, hos, hcs, hds⟩ := id hs
  unfold Builtin.Slice.sliceApplied Builtin.Slice.sliceFields
  refine wpAny_bind (wpAny_bind (wpAny_field hos hds (x := vl) rfl (wpAny_bind (wpAny_field hos hds (x := vu) rfl (wpAny_bind (wpAny_field hos hds (x := .none) rfl (wpAny_pure ?_)))))))
  refine wpAny_bind (slicePart_none ?_)
  show wpAny _ _ (if ((1 : Int) == 0) = true then _ else _) _ _ s
  rw [if_neg (by decide)]
  refine wpAny_bind (slicePart_ pl (wpAny_bind (slicePart_ pu (wpAny_bind (wpAny_pure ?_)))))
  show wpAny _ _ (match Builtin.Slice.sliceAdjust lo hi 1 (n : Int) with | (lo, hi) => pure (lo, (1 : Int), Builtin.Slice.slicePlaces lo hi 1)) _ _ s
  rw [adjust_gen lo hi n]
  show wpAny _ _ (pure (((sIx n 0 lo : Nat) : Int), (1 : Int), Builtin.Slice.slicePlaces ((sIx n 0 lo : Nat) : Int) ((sIx n n hi : Nat) : Int) 1)) _ _ s
  rw [places_gen]
  exact wpAny_pure h
theorem pick_gen (xs : Array Value) (i k : Nat) : ((List.range k).filterMap fun (m : Nat) => xs[((i : Int) + (m : Int) * 1).toNat]?).toArray = ((xs.toList.drop i).take k).toArray := by
  have e : (fun (m : Nat) => xs[((i : Int) + (m : Int) * 1).toNat]?) = fun m => xs[i + m]? := by
    funext m
    have : ((i : Int) + (m : Int) * 1).toNat = i + m := by omega
    rw [this]
  rw [e]
  have := pick_run xs i k
  rw [List.filterMap_map] at this
  have e2 : ((fun x => xs[x]?) ∘ fun x => i + x) = fun m => xs[i + m]? := rfl
  rw [e2] at this
  rw [this]
theorem getItem_tuple_cut {t sl : Addr} {items : Array Value} {vl vu : Value} {lo hi : Option Int} {Q : Value → Shared → Prop} (ht : IsTup s.heap t items) (hs : s.heap.IsSliceOf sl vl vu .none) (pl : IsPart vl lo) (pu : IsPart vu hi)
    (hw : ¬ (sIx items.size 0 lo = 0 ∧ sIx items.size items.size hi = items.size))
    (h : Q (.ref s.heap.objs.size) { s with heap := s.heap.push { cls := .type "tuple", data := .seq ((items.toList.drop (sIx items.size 0 lo)).take (sIx items.size items.size hi - sIx items.size 0 lo)).toArray } })
    (hsz : items.size ≤ sizeLine) : wpAny (model prog w) A (getItem (.ref t) (.ref sl)) Q E s := by
  have htake : sizeOk (.seq ((items.toList.drop (sIx items.size 0 lo)).take (sIx items.size items.size hi - sIx items.size 0 lo)).toArray) := by
    show ((items.toList.drop (sIx items.size 0 lo)).take (sIx items.size items.size hi - sIx items.size 0 lo)).toArray.size ≤ sizeLine
    rw [List.size_toArray, List.length_take, List.length_drop, Array.length_toList]
    omega
  have hj : sIx items.size items.size hi ≤ items.size := sIx_le _ _ (Nat.le_refl _) hi
  obtain ⟨os, hos, hcs, hds⟩ := id hs
  have hTs : s.TypeIs (.ref sl) "slice" := ⟨os, hos, hcs⟩
  unfold getItem
  try with_reducible refine wpAny_holding ?_
  first | refine wpAny_bind (wpAny_pure ?_) | skip
  refine wpAny_bind (wpAny_sequenceKey ht.typeIs (by decide) ?_)
  refine wpAny_bind (wpAny_callSpecial?_slot (name := Str.ofString "__getitem__") ht.typeIs PyProof.Rows.slot_tuple_getitem
    (wpAny_call_entry PyProof.Rows.slot_tuple_getitem ht.typeIs entry_tuple_getitem ?_ (args_tuple_getitem _ _)))
  show wpAny _ _ (Builtin.Tuple.tupleItemsOf (.ref t) >>= _) _ _ s
  refine wpAny_bind (tupleItemsOf_ ht ?_)
  refine wpAny_bind (wpAny_typeOf hTs ?_)
  rw [if_pos (by decide)]
  refine wpAny_bind (sliceApplied_gen hs pl pu ?_)
  have hno : ¬ ((((sIx items.size 0 lo : Nat) : Int) == 0 && (1 : Int) == 1 && (sIx items.size items.size hi - sIx items.size 0 lo) == items.size) = true) := by
    intro q
    rw [Bool.and_eq_true, Bool.and_eq_true] at q
    have q1 : ((sIx items.size 0 lo : Nat) : Int) = 0 := eq_of_beq q.1.1
    have q2 : sIx items.size items.size hi - sIx items.size 0 lo = items.size := eq_of_beq q.2
    exact hw ⟨by omega, by omega⟩
  show wpAny _ _ (if (((sIx items.size 0 lo : Nat) : Int) == 0 && (1 : Int) == 1 && (sIx items.size items.size hi - sIx items.size 0 lo) == items.size) = true then _ else _) _ _ s
  rw [if_neg hno, pick_gen]
  first
    | exact wpAny_bind (m := Builtin.Tuple.tupleExact _) (wpAny_newObj_type (wpAny_pure ⟨_, rfl, wpAny_pure h⟩) htake)
    | exact wpAny_bind (m := Builtin.Tuple.tupleExact _) (wpAny_newObj_type (wpAny_bind (wpAny_pure (wpAny_pure ⟨_, rfl, wpAny_pure h⟩))) htake)
    | exact wpAny_bind (wpAny_bind (m := Builtin.Tuple.tupleExact _) (wpAny_newObj_type (wpAny_pure (wpAny_pure ⟨_, rfl, wpAny_pure h⟩)) htake))
    | exact wpAny_bind (wpAny_bind (m := Builtin.Tuple.tupleExact _) (wpAny_newObj_type (wpAny_pure ⟨_, rfl, wpAny_pure h⟩) htake))
end
end HT
namespace L2
open PySem PySem.Spec PyProof.Rows
abbrev TO := St → Hp → (Option Int → Hp → Prop) → Prop
def PO (X : Cx) (e : Option Expr) (t : TO) : Prop :=
  ∀ (pins : List (Addr × Obj)) (s : Shared) (σ : St) (H : Hp) (Q : Option Int → Hp → Prop), Inv X pins σ H s → t σ H Q →
    wpAny (model X.prog X.w) X.A (evalPart e X.env) (fun u s' => ∃ o H', Inv X pins σ H' s' ∧ IsPart u o ∧ Q o H') X.xe s
def tNoPart : TO := fun _ H Q => Q none H
def tPart (t : TE) : TO := fun σ H Q => t σ H fun x H1 => ∃ i, x = .int i ∧ Q (some i) H1
theorem intsAre_of {ns : List Int} : ∀ {us : List Value}, Vals (ns.map V.int) us → IntsAre us ns := by
  induction ns with
  | nil => intro us r; rw [List.map_nil] at r; cases r; exact .nil
  | cons n ns ih =>
    intro us r
    rw [List.map_cons] at r
    cases r with
    | cons r1 r2 =>
      obtain ⟨t, e⟩ := r1
      subst e
      exact .cons n t (ih r2)
section
variable {X : Cx} {e : Expr} {te : TE} {lo hi : Option Expr} {tl th : TO} {pos p2 : Pos}
theorem po_none : PO X none tNoPart := by
  intro pins s σ H Q I h
  rw [evalPart_none]
  exact wpAny_pure ⟨none, H, I, .none, h⟩
theorem po_some (h : PE X e te) : PO X (some e) (tPart te) := by
  intro pins s σ H Q I hw
  rw [evalPart_some]
  refine thn (h pins s σ H _ I hw) fun u s1 ⟨x, H1, I1, r1, q1⟩ => ?_
  obtain ⟨i, rfl, q⟩ := q1
  obtain ⟨t, rfl⟩ := r1
  exact ⟨some i, H1, I1, .int i t, q⟩
def SlR (X : Cx) (r : V → Option Int → Option Int → Hp → VK → Prop) : Prop :=
  ∀ (pins : List (Addr × Obj)) (s : Shared) (σ : St) (H : Hp) (x : V) (v vl vu : Value) (lo hi : Option Int) (sl : Addr) (Q : VK), Inv X pins σ H s → RelV x v → s.heap.IsSliceOf sl vl vu .none → IsPart vl lo → IsPart vu hi → r x lo hi H Q →
    ∃ T id, typeLookup (.type T) "__getitem__" = pure (some (.builtin id)) ∧ s.TypeIs v T ∧ wpAny (model X.prog X.w) X.A (getItem v (.ref sl)) (EP X pins σ Q) X.xe s
theorem SlR.or {r r' : V → Option Int → Option Int → Hp → VK → Prop} (h : SlR X r) (h' : SlR X r') : SlR X (fun x lo hi H Q => r x lo hi H Q ∨ r' x lo hi H Q) := by
  intro pins s σ H x v vl vu lo hi sl Q I rx hs pl pu q
  rcases q with q | q
  · exact h pins s σ H x v vl vu lo hi sl Q I rx hs pl pu q
  · exact h' pins s σ H x v vl vu lo hi sl Q I rx hs pl pu q
def tSl (r : V → Option Int → Option Int → Hp → VK → Prop) (te : TE) (tl th : TO) : TE := fun σ H Q => te σ H fun x H1 => tl σ H1 fun l H2 => th σ H2 fun u H3 => r x l u H3 Q
theorem pe_slice {r : V → Option Int → Option Int → Hp → VK → Prop} (hr : SlR X r) (he : PE X e te) (hl : PO X lo tl) (hu : PO X hi th) : PE X (.Subscript e (.Slice lo hi none p2) pos) (tSl r te tl th) := by
  intro pins s σ H Q I h
  refine Subscript_ (thn (he pins s σ H _ I h) fun v s1 ⟨x, H1, I1, r1, q1⟩ => ?_)
  refine wpAny_Slice (thn (hl pins s1 σ H1 _ I1 q1) fun vl s2 ⟨l, H2, I2, pl, q2⟩ => thn (hu pins s2 σ H2 _ I2 q2) fun vu s3 ⟨u, H3, I3, pu, q3⟩ => ?_)
  rw [evalPart_none]
  refine wpAny_pure ?_
  have I4 : Inv X pins σ H3 { s3 with heap := s3.heap.push { cls := .type "slice", data := .fields #[vl, vu, .none] } } := I3.kept (t' := s3.toks) fun b ob q => Heap.get?_push_of_some _ q
  obtain ⟨T, id, hT, ht, hg⟩ := hr pins { s3 with heap := s3.heap.push { cls := .type "slice", data := .fields #[vl, vu, .none] } } σ H3 x v vl vu l u s3.heap.objs.size Q I4 r1 (Heap.IsSliceOf.new ..) pl pu q3
  show wpAny (model X.prog X.w) X.A (subscriptTail e (.Slice lo hi none p2) v (.ref s3.heap.objs.size)) (EP X pins σ Q) X.xe { s3 with heap := s3.heap.push { cls := .type "slice", data := .fields #[vl, vu, .none] } }
  exact tail_any (ops := [.ref s3.heap.objs.size, v]) ht hT hg (by with_unfolding_all rfl)
def cutV (xs : List V) (lo hi : Option Int) : List V := (xs.drop (HT.sIx xs.length 0 lo)).take (HT.sIx xs.length xs.length hi - HT.sIx xs.length 0 lo)
theorem cutV_length (xs : List V) (lo hi : Option Int) : (cutV xs lo hi).length ≤ xs.length := by
  unfold cutV
  rw [List.length_take, List.length_drop]
  omega
def rSlT (K : PySem.W.Frag) : V → Option Int → Option Int → Hp → VK → Prop := fun x lo hi H Q => ∃ a xs, x = .ref a ∧ SqT K H a xs ∧
  ¬ (HT.sIx xs.length 0 lo = 0 ∧ HT.sIx xs.length xs.length hi = xs.length) ∧ ∀ p, H p = none → Q (.ref p) (upd H p (.tup (cutV xs lo hi)))
theorem sl_tup : SlR X (rSlT X.K) := by
  intro pins s σ H x v vl vu lo hi sl Q I rx hs pl pu h
  obtain ⟨a, xs, rfl, hx, hw, q⟩ := h
  cases rx
  obtain ⟨its, r, ht, hz⟩ := I.tuple hx
  have hlen : its.toArray.size = xs.length := by rw [List.size_toArray]; exact r.length.symm
  refine ⟨"tuple", _, PyProof.Rows.slot_tuple_getitem.lookup, ht.typeIs, ?_⟩
  refine HT.getItem_tuple_cut ht hs pl pu (by rw [hlen]; exact hw) ?_ (by rw [hlen]; exact hz)
  rw [hlen]
  refine ⟨.ref s.heap.objs.size, _, I.laid (t' := s.toks) (o := .tup (cutV xs lo hi)) (fun b ob q => Heap.get?_push_of_some _ q) (Nat.le_refl _) ?_, rfl, q _ (I.hok.fresh (Nat.le_refl _))⟩
  exact ⟨Nat.le_trans (cutV_length xs lo hi) hz, _, (r.drop (HT.sIx xs.length 0 lo)).take (HT.sIx xs.length xs.length hi - HT.sIx xs.length 0 lo), TupN.new _ _⟩
end
def ixN (n : Nat) (i : Int) : Option Nat := if 0 ≤ i then (if i < n then some i.toNat else none) else if -(n : Int) ≤ i then some (i + n).toNat else none
def atI {α : Type} (xs : List α) (i : Int) : Option α := (ixN xs.length i).bind fun j => xs[j]?
theorem ixN_seq {n : Nat} {i : Int} {j : Nat} (h : ixN n i = some j) : seqIndex? i n = some j ∧ j < n ∧ -(n : Int) ≤ i ∧ i < n := by
  unfold ixN at h
  by_cases h0 : 0 ≤ i
  · rw [if_pos h0] at h
    by_cases h1 : i < n
    · rw [if_pos h1] at h
      have e : i.toNat = j := Option.some.inj h
      exact ⟨by rw [seqIndex_of h0 h1, e], by omega, by omega, h1⟩
    · rw [if_neg h1] at h; cases h
  · rw [if_neg h0] at h
    by_cases h1 : -(n : Int) ≤ i
    · rw [if_pos h1] at h
      have e : (i + n).toNat = j := Option.some.inj h
      exact ⟨by rw [seqIndex_neg (by omega) h1, e], by omega, h1, by omega⟩
    · rw [if_neg h1] at h; cases h
theorem atI_get {α : Type} {xs : List α} {i : Int} {v : α} (h : atI xs i = some v) : ∃ j, seqIndex? i xs.length = some j ∧ xs[j]? = some v ∧ j < xs.length ∧ -(xs.length : Int) ≤ i ∧ i < xs.length := by
  unfold atI at h
  cases e : ixN xs.length i with
  | none => rw [e] at h; cases h
  | some j =>
    rw [e] at h
    obtain ⟨h1, h2, h3, h4⟩ := ixN_seq e
    exact ⟨j, h1, h, h2, h3, h4⟩
theorem atI_nat {α : Type} {xs : List α} {j : Nat} {v : α} (h : xs[j]? = some v) : atI xs (j : Int) = some v := by
  have hj : j < xs.length := (List.getElem?_eq_some_iff.mp h).1
  have e : ixN xs.length (j : Int) = some j := by
    unfold ixN
    rw [if_pos (by omega), if_pos (by omega)]; simp
  unfold atI; rw [e]; exact h
def PlainIx (b : Expr) : Prop := ∀ o i, subscripted b false o i = operate [o, i] (getItem o i)
def IxR (X : Cx) (r : R2) : Prop :=
  ∀ (value slice : Expr) (pins : List (Addr × Obj)) (s : Shared) (σ : St) (H : Hp) (x y : V) (v u : Value) (Q : VK), Inv X pins σ H s → RelV x v → RelV y u → r x y H Q →
    subscripted slice false v u = operate [v, u] (getItem v u) → wpAny (model X.prog X.w) X.A (subscriptTail value slice v u) (EP X pins σ Q) X.xe s
def MtR (X : Cx) (id : String) (r : V → List V → Hp → VK → Prop) : Prop :=
  ∀ (pins : List (Addr × Obj)) (s : Shared) (σ : St) (H : Hp) (x : V) (xs : List V) (v : Value) (us : List Value) (Q : VK), Inv X pins σ H s → RelV x v → Vals xs us → r x xs H Q →
    wpAny (model X.prog X.w) X.A (call (.builtin id) (v :: us)) (EP X pins σ Q) X.xe s
section
variable {X : Cx} {a b : Expr} {ta tb : TE} {pos : Pos}
theorem IxR.or {r r' : R2} (h : IxR X r) (h' : IxR X r') : IxR X (fun x y H Q => r x y H Q ∨ r' x y H Q) := by
  intro value slice pins s σ H x y v u Q I rx ry q hs
  rcases q with q | q
  · exact h value slice pins s σ H x y v u Q I rx ry q hs
  · exact h' value slice pins s σ H x y v u Q I rx ry q hs
theorem MtR.or {id : String} {r r' : V → List V → Hp → VK → Prop} (h : MtR X id r) (h' : MtR X id r') : MtR X id (fun x xs H Q => r x xs H Q ∨ r' x xs H Q) := by
  intro pins s σ H x xs v us Q I rx rs q
  rcases q with q | q
  · exact h pins s σ H x xs v us Q I rx rs q
  · exact h' pins s σ H x xs v us Q I rx rs q
theorem pe_ix {r : R2} (hr : IxR X r) (ha : PE X a ta) (hb : PE X b tb) (hs : PlainIx b) : PE X (.Subscript a b pos) (tOp r ta tb) := by
  intro pins s σ H Q I h
  exact Subscript_ (binT ha hb I h fun v u s2 x y H2 I2 rx ry q => hr a b pins s2 σ H2 x y v u Q I2 rx ry q (hs _ _))
def rIxL (K : PySem.W.Frag) : R2 := fun x y H Q => ∃ p xs i v, x = .ref p ∧ y = .int i ∧ SqL K H p xs ∧ atI xs i = some v ∧ Q v H
def rIxT (K : PySem.W.Frag) : R2 := fun x y H Q => ∃ p xs i v, x = .ref p ∧ y = .int i ∧ SqT K H p xs ∧ atI xs i = some v ∧ Q v H
def rIxS : R2 := fun x y H Q => ∃ z i c, x = .str z ∧ y = .int i ∧ z.length ≤ sizeLine ∧ atI z.cps.toList i = some c ∧ Q (.str ⟨#[c]⟩) H
theorem ix_list : IxR X (rIxL X.K) := by
  intro value slice pins s σ H x y v u Q I rx ry h hs
  obtain ⟨p, xs, i, z, rfl, rfl, hq, he, q⟩ := h
  cases rx
  obtain ⟨t, rfl⟩ := ry
  obtain ⟨its, r, pl, hz⟩ := I.list hq
  obtain ⟨j, h1, h2, h3, h4, h5⟩ := atI_get he
  obtain ⟨w, ew, rw'⟩ := r.get h2
  have hl := r.length
  have hn := line63
  have fin : EP X pins σ Q w s := ⟨z, H, I, rw', q⟩
  by_cases h0 : 0 ≤ i
  · have hj : i.toNat = j := by
      rw [seqIndex_of h0 h5] at h1
      exact Option.some.inj h1
    exact item_listR pl.isList h0 (by omega) (by rw [hj]; simpa using ew) fin hs
  · have hj : (i + (its.toArray.size : Int)).toNat = j := by
      rw [seqIndex_neg (by omega) h4] at h1
      rw [List.size_toArray, ← hl]
      exact Option.some.inj h1
    exact subscriptTail_builtinR (x := w) pl.isList.typeIs slot_list_getitem.lookup
      (wpAny_getItem_list_neg (Q := fun r s' => r = w ∧ EP X pins σ Q r s') pl.isList (by omega) (by rw [List.size_toArray] <;> omega) (by omega) (by rw [hj]; simpa using ew) ⟨rfl, fin⟩) hs
theorem ix_tup : IxR X (rIxT X.K) := by
  intro value slice pins s σ H x y v u Q I rx ry h hs
  obtain ⟨p, xs, i, z, rfl, rfl, hq, he, q⟩ := h
  cases rx
  obtain ⟨t, rfl⟩ := ry
  obtain ⟨its, r, pl, hz⟩ := I.tuple hq
  obtain ⟨j, h1, h2, h3, h4, h5⟩ := atI_get he
  obtain ⟨w, ew, rw'⟩ := r.get h2
  have hl := r.length
  have hn := line63
  have fin : EP X pins σ Q w s := ⟨z, H, I, rw', q⟩
  exact subscriptTail_builtinR (x := w) pl.typeIs slot_tuple_getitem.lookup
    (getItem_tuple (j := j) (Q := fun r s' => r = w ∧ EP X pins σ Q r s') pl (by omega) (by omega) (by rw [List.size_toArray, ← hl]; exact h1) (by simpa using ew) ⟨rfl, fin⟩) hs
theorem ix_str : IxR X rIxS := by
  intro value slice pins s σ H x y v u Q I rx ry h hs
  obtain ⟨z, i, c, rfl, rfl, hz, he, q⟩ := h
  obtain ⟨t, rfl⟩ := rx
  obtain ⟨t', rfl⟩ := ry
  obtain ⟨j, h1, h2, h3, h4, h5⟩ := atI_get he
  have hl : z.cps.toList.length = z.length := by simp [Str.length]
  rw [hl] at h1 h4 h5
  have hn := line63
  exact tail_any (typeIs_str s z t) slot_str_getitem.lookup (getItem_str (c := c) (by
    have e1 : decide (i < -(2 ^ 63 : Int)) = false := decide_eq_false (by omega)
    have e2 : decide (i ≥ 2 ^ 63) = false := decide_eq_false (by omega)
    rw [e1, e2, Bool.or_false]) (by rw [h1]; simpa using h2) ⟨.str ⟨#[c]⟩, H, I.tok _, ⟨_, rfl⟩, q⟩) hs
def rIx (K : PySem.W.Frag) : R2 := fun x y H Q => rIxL K x y H Q ∨ rIxT K x y H Q ∨ rIxS x y H Q
theorem ix_seq : IxR X (rIx X.K) := ix_list.or (ix_tup.or ix_str)
theorem Inv.lst {pins : List (Addr × Obj)} {σ : St} {H : Hp} {s : Shared} {p : Addr} {xs : List V} (I : Inv X pins σ H s) (h : H p = some (.lst xs)) :
    ∃ (its : List Value) (n : Nat), Vals xs its ∧ s.heap.get? p = some { cls := .type "list", data := .seq its.toArray n } ∧ xs.length ≤ sizeLine := by
  obtain ⟨z, its, n, r, e⟩ := I.hok p _ h
  exact ⟨its, n, r, e, z⟩
theorem slice_bounds (lo hi : Option Int) (n : Nat) : (sliceBounds lo hi none n).1 = ((HT.sIx n 0 lo : Nat) : Int) ∧ (sliceBounds lo hi none n).2.1 = ((HT.sIx n n hi : Nat) : Int) ∧ (sliceBounds lo hi none n).2.2 = 1 := by
  refine ⟨?_, ?_, rfl⟩
  · cases lo with
    | none => simp [sliceBounds, HT.sIx]
    | some i =>
      simp only [sliceBounds, HT.sIx, Option.getD_none, show (1 : Int) > 0 by decide, if_true]
      by_cases h : i < 0
      · simp only [h, if_true] <;> omega
      · simp only [h, if_false] <;> omega
  · cases hi with
    | none => simp [sliceBounds, HT.sIx]
    | some i =>
      simp only [sliceBounds, HT.sIx, Option.getD_none, show (1 : Int) > 0 by decide, if_true]
      by_cases h : i < 0
      · simp only [h, if_true] <;> omega
      · simp only [h, if_false] <;> omega
theorem slicePick_cut (its : List Value) (lo hi : Option Int) : slicePick its.toArray lo hi none = ((its.drop (HT.sIx its.length 0 lo)).take (HT.sIx its.length its.length hi - HT.sIx its.length 0 lo)).toArray := by
  obtain ⟨h1, h2, h3⟩ := slice_bounds lo hi its.toArray.size
  unfold slicePick
  rw [h1, h2, h3]
  simp only [sliceRange_one, pick_run, List.size_toArray] <;> rfl
def rSlL (K : PySem.W.Frag) : V → Option Int → Option Int → Hp → VK → Prop := fun x lo hi H Q => ∃ a xs, x = .ref a ∧ SqL K H a xs ∧ ∀ p, H p = none → Q (.ref p) (upd H p (.lst (cutV xs lo hi)))
theorem sl_list : SlR X (rSlL X.K) := by
  intro pins s σ H x v vl vu lo hi sl Q I rx hs pl pu h
  obtain ⟨a, xs, rfl, hx, q⟩ := h
  cases rx
  obtain ⟨its, r, ht, hz⟩ := I.list hx
  have hlen := r.length
  refine ⟨"list", _, slot_list_getitem.lookup, ht.isList.typeIs, ?_⟩
  refine wpAny_getItem_list_slice ht.isList hs pl pu .none (by simp) ?_ (by rw [List.size_toArray] <;> omega)
  rw [slicePick_cut, ← hlen]
  refine ⟨.ref s.heap.objs.size, _, I.laid (t' := s.toks) (o := .lst (cutV xs lo hi)) (fun b ob q => Heap.get?_push_of_some _ q) (Nat.le_refl _) ?_, rfl, q _ (I.hok.fresh (Nat.le_refl _))⟩
  exact ⟨Nat.le_trans (cutV_length xs lo hi) hz, _, 0, (r.drop (HT.sIx xs.length 0 lo)).take (HT.sIx xs.length xs.length hi - HT.sIx xs.length 0 lo), Heap.get?_push_size _ rfl⟩
theorem CallR.or {f : Value} {r r' : List V → Hp → VK → Prop} (h : CallR X f r) (h' : CallR X f r') : CallR X f (fun xs H Q => r xs H Q ∨ r' xs H Q) := by
  intro pins s σ H xs us Q I rs q
  rcases q with q | q
  · exact h pins s σ H xs us Q I rs q
  · exact h' pins s σ H xs us Q I rs q
theorem call_list_of : CallR X (.type "list") (fun xs H Q => ∃ p ys, xs = [.ref p] ∧ (SqL X.K H p ys ∨ SqT X.K H p ys) ∧ ∀ l, H l = none → Q (.ref l) (upd H l (.lst ys))) := by
  intro pins s σ H xs us Q I r h
  obtain ⟨p, ys, rfl, hq, q⟩ := h
  obtain ⟨u, rfl, rx⟩ := vals1 r
  cases rx
  have fin : ∀ (its : List Value), Vals ys its → ys.length ≤ sizeLine → ∀ (h' : Heap) (c' : Nat), (∀ b o', s.heap.get? b = some o' → h'.get? b = some o') →
      h'.get? s.heap.objs.size = some { cls := .type "list", dict := none, data := .seq its.toArray c', slots := #[] } → EP X pins σ Q (.ref s.heap.objs.size) { s with heap := h' } := fun its r' hz h' c' kp e =>
    ⟨.ref s.heap.objs.size, _, I.laid (t' := s.toks) kp (Nat.le_refl _) (show ObjOk X.prog X.w _ h' _ (.lst ys) from ⟨hz, its, c', r', e⟩), rfl, q _ (I.hok.fresh (Nat.le_refl _))⟩
  rcases hq with hq | hq
  · obtain ⟨its, r', pl, hz⟩ := I.list hq
    have hlen := r'.length
    obtain ⟨o, ho, hc, n, hd⟩ := pl.isList
    exact call_list_seq p (.inl rfl) ho hc hd (fun h' c' kp e => fin its r' hz h' c' kp e) (by simp only [List.size_toArray] <;> omega)
  · obtain ⟨its, r', pl, hz⟩ := I.tuple hq
    have hlen := r'.length
    obtain ⟨o, ho, hc, n, hd⟩ := pl
    exact call_list_seq p (.inr rfl) ho hc hd (fun h' c' kp e => fin its r' hz h' c' kp e) (by simp only [List.size_toArray] <;> omega)
theorem call_tuple_of : CallR X (.type "tuple") (fun xs H Q => ∃ p ys, xs = [.ref p] ∧ ((SqL X.K H p ys ∧ ∀ l, H l = none → Q (.ref l) (upd H l (.tup ys))) ∨ (SqT X.K H p ys ∧ Q (.ref p) H))) := by
  intro pins s σ H xs us Q I r h
  obtain ⟨p, ys, rfl, h⟩ := h
  obtain ⟨u, rfl, rx⟩ := vals1 r
  cases rx
  rcases h with ⟨hq, q⟩ | ⟨hq, q⟩
  · obtain ⟨its, r', pl, hz⟩ := I.list hq
    have hlen := r'.length
    refine call_tuple_list pl.isList (fun h' kp => ?_) (by simp only [List.size_toArray] <;> omega)
    have I1 : Inv X pins σ H { s with heap := h' } := I.kept (t' := s.toks) kp
    have I2 : Inv X pins σ (upd H h'.objs.size (.tup ys)) { s with heap := h'.push { cls := .type "tuple", data := .seq its.toArray } } :=
      I1.laid (t' := s.toks) (fun b o e => Heap.get?_push_of_some _ e) (Nat.le_refl _) (show ObjOk X.prog X.w _ _ _ (.tup ys) from ⟨hz, its, r', TupN.new _ _⟩)
    exact ⟨.ref h'.objs.size, _, I2, rfl, q _ (I1.hok.fresh (Nat.le_refl _))⟩
  · obtain ⟨its, r', pl, hz⟩ := I.tuple hq
    exact call_tuple_same pl ⟨.ref p, H, I, rfl, q⟩
def tyV (K : PySem.W.Frag) (T : String) (x : V) (H : Hp) : Prop := match x with
  | .str _ => T = "str"
  | .int _ => T = "int"
  | .ref p => (T = "list" ∧ ∃ xs, SqL K H p xs) ∨ (T = "tuple" ∧ ∃ o, K.lookup p = some o ∧ o.cls = .type "tuple" ∧ o.dict = none) ∨
      (T = "dict" ∧ ((∃ kvs, H p = some (.dK kvs)) ∨ ∃ kvs, H p = some (.dT kvs))) ∨ (T = "set" ∧ ∃ S n, H p = some (.set S n))
  | _ => False
theorem tyV_is {pins : List (Addr × Obj)} {σ : St} {H : Hp} {s : Shared} {T : String} {x : V} {v : Value} (I : Inv X pins σ H s) (r : RelV x v) (ty : tyV X.K T x H) :
    s.TypeIs v T ∧ ∀ a, v = .ref a → ∃ ob, s.heap.get? a = some ob ∧ ob.dict = none := by
  cases x with
  | str z =>
    obtain ⟨t, rfl⟩ := r
    cases (show T = "str" from ty)
    exact ⟨typeIs_str s z t, fun _ e => nomatch e⟩
  | int i =>
    obtain ⟨t, rfl⟩ := r
    cases (show T = "int" from ty)
    exact ⟨typeIs_int s i t, fun _ e => nomatch e⟩
  | ref p =>
    cases r
    rcases ty with ⟨rfl, xs, hq⟩ | ⟨rfl, o, hk, hc, hd⟩ | ⟨rfl, hk⟩ | ⟨rfl, S, n, hk⟩
    · obtain ⟨its, _, pl, _⟩ := I.list hq
      refine ⟨pl.isList.typeIs, fun a e => ?_⟩
      cases e
      obtain ⟨o, n, e, c, hd, _⟩ := pl
      exact ⟨o, e, hd⟩
    · refine ⟨⟨o, I.kIn p o hk, hc⟩, fun a e => ?_⟩
      cases e
      exact ⟨o, I.kIn _ o hk, hd⟩
    · have z : ∃ o, s.heap.get? p = some o ∧ o.ExactDict := by
        rcases hk with ⟨kvs, hk⟩ | ⟨kvs, hk⟩
        · obtain ⟨_, _, _, _, o, _, _, e, ex, _⟩ := I.hok p _ hk
          exact ⟨o, e, ex⟩
        · obtain ⟨_, _, _, _, o, _, _, e, ex, _⟩ := I.hok p _ hk
          exact ⟨o, e, ex⟩
      obtain ⟨o, e, ex⟩ := z
      refine ⟨⟨o, e, ex.1⟩, fun a e2 => ?_⟩
      cases e2
      exact ⟨o, e, ex.2.1⟩
    · obtain ⟨o, _, _, _, e, ex, _⟩ := I.hok p _ hk
      refine ⟨⟨o, e, ex.1⟩, fun a e2 => ?_⟩
      cases e2
      exact ⟨o, e, ex.2.1⟩
  | _ => exact False.elim ty
def tBM0 (K : PySem.W.Frag) (T : String) (r : V → List V → Hp → VK → Prop) (to : TE) : TE := fun σ H Q => to σ H fun x H1 => tyV K T x H1 ∧ r x [] H1 Q
def tBM (K : PySem.W.Frag) (T : String) (r : V → List V → Hp → VK → Prop) (to : TE) (t : TA) : TE := fun σ H Q => to σ H fun x H1 => tyV K T x H1 ∧ t σ H1 fun xs H2 => r x xs H2 Q
variable {o e : Expr} {es : List Expr} {to : TE} {t : TA} {name : Str} {apos cpos : Pos} {T id : String} {r : V → List V → Hp → VK → Prop}
theorem pe_bm0 (pa : PlainAttrs T) (slot : Slot T name id) (hty : typeOf (.builtin id) = pure (.type "method_descriptor")) (hm : MtR X id r) (ho : PE X o to)
    (hbase : attributeBase o name X.env (eval o X.env) = eval o X.env := by rfl) (hline : (apos.endLine == cpos.line) = true := by rfl) : PE X (.Call (.Attribute o name apos) [] [] cpos) (tBM0 X.K T r to) := by
  intro pins s σ H Q I h
  refine wpAny_Call_method0_late hbase hline (thn (ho pins s σ H _ I h) fun v s1 ⟨x, H1, I1, r1, ty, q1⟩ => ?_)
  obtain ⟨h1, h2⟩ := tyV_is I1 r1 ty
  exact ⟨T, id, pa, slot, hty, h1, h2, Calls.callWith_builtin rfl (PySem.evalArgs_none (hm pins s1 σ H1 x [] v [] Q I1 r1 .nil q1))⟩
theorem pe_bm (pa : PlainAttrs T) (slot : Slot T name id) (hty : typeOf (.builtin id) = pure (.type "method_descriptor")) (hm : MtR X id r) (ho : PE X o to) (ha : PA X (e :: es) t)
    (hbase : attributeBase o name X.env (eval o X.env) = eval o X.env := by rfl)
    (hfew : ((backTo cpos (starEach (e :: es) X.env)).all (fun x => !x.1) && (backToKw cpos (keywordEach [] X.env)).all (fun x => x.1.isSome)
      && decide ((e :: es).length + ([] : List Keyword).length + (if ([] : List Keyword).isEmpty then 0 else 1) < 30)) = true := by rfl)
    (hline : (apos.endLine == cpos.line) = true := by rfl) (hs : starEach (e :: es) X.env = (false, eval e X.env) :: starEach es X.env := by rfl) (hplain : (backTo cpos (starEach es X.env)).any (·.1) = false := by rfl) :
    PE X (.Call (.Attribute o name apos) (e :: es) [] cpos) (tBM X.K T r to t) := by
  intro pins s σ H Q I h
  refine wpAny_Call_method_late hbase hfew hline rfl (thn (ho pins s σ H _ I h) fun v s1 ⟨x, H1, I1, r1, ty, q1⟩ => ?_)
  obtain ⟨h1, h2⟩ := tyV_is I1 r1 ty
  refine ⟨T, id, pa, slot, hty, h1, h2, ?_⟩
  have hA := ha cpos pins s1 σ H1 _ I1 q1
  rw [hs] at hA ⊢
  refine Calls.callWith_builtin (by show (false || (backTo cpos (starEach es X.env)).any (·.1)) = false; rw [hplain] <;> rfl) (Calls.evalArgs_plain ?_)
  exact thn hA fun us s2 ⟨vs, H2, I2, r2, q2⟩ => hm pins s2 σ H2 x vs v us Q I2 r1 r2 q2
end
def MtM (X : Cx) (id : String) (r : V → List V → Hp → VK → Prop) : Prop :=
  ∀ (pins : List (Addr × Obj)) (s : Shared) (σ : St) (H : Hp) (x : V) (xs : List V) (v : Value) (us : List Value) (Q : VK), Inv X pins σ H s → RelV x v → Vals xs us → r x xs H Q →
    wpAny (model X.prog X.w) X.A (call (.builtin id) (v :: us)) (EP X pins σ Q) X.xe s
theorem Vals.one : ∀ {x : V} {us : List Value}, Vals [x] us → ∃ u, us = [u] ∧ RelV x u
  | _, _, .cons r .nil => ⟨_, rfl, r⟩
theorem Vals.two : ∀ {x y : V} {us : List Value}, Vals [x, y] us → ∃ u v, us = [u, v] ∧ RelV x u ∧ RelV y v
  | _, _, _, .cons r (.cons q .nil) => ⟨_, _, rfl, r, q⟩
theorem Vals.zero : ∀ {us : List Value}, Vals [] us → us = []
  | _, .nil => rfl
theorem Vals.dropLast {xs : List V} {us : List Value} (h : Vals xs us) : Vals xs.dropLast us.dropLast := by
  induction h with
  | nil => exact .nil
  | cons r t ih =>
    cases t with
    | nil => exact .nil
    | cons q t' => exact .cons r ih
theorem Vals.reverse {xs : List V} {us : List Value} (h : Vals xs us) : Vals xs.reverse us.reverse := by
  induction h with
  | nil => exact .nil
  | cons r t ih => rw [List.reverse_cons, List.reverse_cons]; exact Vals.append ih (.cons r .nil)
theorem Vals.rep {xs : List V} {us : List Value} (h : Vals xs us) : ∀ k : Nat, Vals (List.replicate k xs).flatten (List.replicate k us).flatten
  | 0 => .nil
  | k + 1 => by
    rw [List.replicate_succ, List.replicate_succ, List.flatten_cons, List.flatten_cons]
    exact Vals.append h (Vals.rep h k)
theorem foldl_rep (its : List Value) : ∀ (k : Nat) (acc : List Value),
    List.foldl (fun x1 x2 => x1 ++ x2) acc.toArray (List.replicate k its.toArray) = (acc ++ (List.replicate k its).flatten).toArray
  | 0, acc => by simp
  | k + 1, acc => by
    have e : acc.toArray ++ its.toArray = (acc ++ its).toArray := by simp
    have e2 : (acc ++ its) ++ (List.replicate k its).flatten = acc ++ (List.replicate (k + 1) its).flatten := by
      rw [List.replicate_succ, List.flatten_cons, List.append_assoc]
    rw [← e2, ← foldl_rep its k (acc ++ its), ← e, List.replicate_succ, List.foldl_cons]
section
variable {X : Cx} {pins : List (Addr × Obj)} {σ : St} {H : Hp} {s : Shared} {l b : Addr} {xs ys zs : List V}
theorem Inv.lset {its its' : List Value} {n : Nat} {f : Array Value → Array Value} {t' : Nat} (I : Inv X pins σ H s) (hH : H l = some (.lst xs))
    (e : s.heap.get? l = some { cls := .type "list", data := .seq its.toArray n }) (hf : f its.toArray = its'.toArray) (hv : Vals ys its') (hz : ys.length ≤ sizeLine) :
    Inv X pins σ (upd H l (.lst ys)) { s with heap := s.heap.update l (Obj.mapSeq f), toks := t' } := by
  have q := PySem.IsL.update e f
  rw [hf] at q
  refine I.write (x := l) (e := l) (by rw [hH]; exact trivial) (.inl rfl) (fun b' u hb hu => (Heap.get?_update_other s.heap (Obj.mapSeq f) (Ne.symm hb)).trans hu) ⟨_, q⟩ ?_
  exact ⟨hz, its', _, hv, q⟩
theorem Inv.lnew {its : List Value} {t' : Nat} (I : Inv X pins σ H s) (hv : Vals ys its) (hz : ys.length ≤ sizeLine) :
    Inv X pins σ (upd H s.heap.objs.size (.lst ys)) { s with heap := s.heap.push { cls := .type "list", data := .seq its.toArray }, toks := t' } :=
  I.laid (fun _ _ q => Heap.get?_push_of_some _ q) (Nat.le_refl _) ⟨hz, its, 0, hv, Heap.get?_push_size _ rfl⟩
theorem Inv.fresh (I : Inv X pins σ H s) : H s.heap.objs.size = none := I.hok.fresh (Nat.le_refl _)
theorem Inv.lstM (I : Inv X pins σ H s) (hH : H l = some (.lst xs)) : xs.length ≤ sizeLine ∧ ∃ (its : List Value) (n : Nat), Vals xs its ∧ xs.length = its.length ∧ s.heap.get? l = some { cls := .type "list", data := .seq its.toArray n } := by
  obtain ⟨z, its, n, r, e⟩ := I.hok l _ hH
  exact ⟨z, its, n, r, r.length, e⟩
theorem notLongL {n : Nat} (h : n ≤ sizeLine) : Builtin.List.listTooLong n = false := by
  unfold Builtin.List.listTooLong
  exact decide_eq_false (by omega)
end
section
variable {X : Cx}
def rAppend : V → List V → Hp → VK → Prop := fun x vs H Q => ∃ l xs y, x = .ref l ∧ vs = [y] ∧ H l = some (.lst xs) ∧ xs.length < sizeLine ∧ Q .non (upd H l (.lst (xs ++ [y])))
theorem mt_append : MtM X "list.append" rAppend := by
  intro pins s σ H x vs v us Q I rx rv h
  obtain ⟨l, xs, y, rfl, rfl, hH, hz, q⟩ := h
  cases rx
  obtain ⟨u, rfl, ru⟩ := rv.one
  obtain ⟨z, its, n, r, hl, e⟩ := I.lstM hH
  refine call_meets F.slot_list_append ⟨_, e, rfl⟩ F.entry_list_append (F.args_list_append_2 _ _) (PySem.list_append l its.toArray n u (by rw [List.size_toArray]; omega)) ⟨e, ?_⟩
  refine ⟨.non, _, I.lset (its' := its ++ [u]) hH e (by simp) (r.append (.cons ru .nil)) ?_, rfl, q⟩
  rw [List.length_append, List.length_singleton]
  omega
def rClear : V → List V → Hp → VK → Prop := fun x vs H Q => ∃ l xs, x = .ref l ∧ vs = [] ∧ H l = some (.lst xs) ∧ Q .non (upd H l (.lst []))
theorem mt_clear : MtM X "list.clear" rClear := by
  intro pins s σ H x vs v us Q I rx rv h
  obtain ⟨l, xs, rfl, rfl, hH, q⟩ := h
  cases rx
  have hus := rv.zero
  subst hus
  obtain ⟨z, its, n, r, hl, e⟩ := I.lstM hH
  refine call_meets F.slot_list_clear ⟨_, e, rfl⟩ F.entry_list_clear (F.args_list_clear_1 _) (AutoSeq1.list_clear_list_0 l its.toArray n (by rw [List.size_toArray]; omega)) ⟨e, ?_⟩
  exact ⟨.non, _, I.lset (its' := []) (ys := []) hH e rfl .nil (Nat.zero_le _), rfl, q⟩
def rCat : R2 := fun x y H Q => ∃ l b xs zs, x = .ref l ∧ y = .ref b ∧ H l = some (.lst xs) ∧ H b = some (.lst zs) ∧ xs.length + zs.length ≤ sizeLine ∧ ∀ p, H p = none → Q (.ref p) (upd H p (.lst (xs ++ zs)))
theorem op_cat : OpR X (binaryOp .Add) rCat := by
  intro pins s σ H x y v u Q I rx ry h
  obtain ⟨l, b, xs, zs, rfl, rfl, hH, hB, hz, q⟩ := h
  cases rx
  cases ry
  obtain ⟨z, its, n, r, hl, e⟩ := I.lstM hH
  obtain ⟨z2, its2, n2, r2, hl2, e2⟩ := I.lstM hB
  refine PySem.P.add_list e e2 ?_ (by rw [List.size_toArray, List.size_toArray]; omega)
  have ea : its.toArray ++ its2.toArray = (its ++ its2).toArray := by simp
  rw [ea]
  exact ⟨.ref _, _, I.lnew (t' := s.toks) (r.append r2) (by rw [List.length_append]; omega), rfl, q _ I.fresh⟩
def rRep : R2 := fun x y H Q => ∃ l k xs, x = .ref l ∧ y = .int k ∧ H l = some (.lst xs) ∧ -(2 ^ 63) ≤ k ∧ k < 2 ^ 63 ∧ xs.length * k.toNat ≤ sizeLine ∧
  ∀ p, H p = none → Q (.ref p) (upd H p (.lst (List.replicate k.toNat xs).flatten))
theorem len_rep {α : Type} (xs : List α) (k : Nat) : (List.replicate k xs).flatten.length = k * xs.length := by
  induction k with
  | zero => simp
  | succ k ih => rw [List.replicate_succ, List.flatten_cons, List.length_append, ih, Nat.succ_mul, Nat.add_comm]
theorem op_rep : OpR X (binaryOp .Mult) rRep := by
  intro pins s σ H x y v u Q I rx ry h
  obtain ⟨l, k, xs, rfl, rfl, hH, h1, h2, hz, q⟩ := h
  cases rx
  obtain ⟨t, rfl⟩ := ry
  obtain ⟨z, its, n, r, hl, e⟩ := I.lstM hH
  have hlen : its.toArray.size * k.toNat ≤ sizeLine := by rw [List.size_toArray, ← hl]; exact hz
  have hcap : ¬ its.toArray.size * k.toNat > (2 ^ 63 - 1) / 8 := by
    have : (sizeLine : Nat) ≤ (2 ^ 63 - 1) / 8 := by decide
    omega
  have hfit : ¬ (!Builtin.List.listFitsIndex k) = true := by
    rw [fitsIndex_both h1 h2]
    exact Bool.false_ne_true
  have hlong : ¬ Builtin.List.listTooLong (its.toArray.size * k.toNat) = true := by
    rw [notLongL hlen]
    exact Bool.false_ne_true
  have hnew : List.foldl (fun x1 x2 => x1 ++ x2) #[] (List.replicate (if its.toArray.isEmpty = true then 0 else k.toNat) its.toArray) = (List.replicate k.toNat its).flatten.toArray := by
    have f0 : ∀ m : Nat, List.foldl (fun x1 x2 => x1 ++ x2) #[] (List.replicate m its.toArray) = (List.replicate m its).flatten.toArray := fun m => by
      have := foldl_rep its m []
      rw [List.nil_append] at this
      exact this
    rw [f0]
    cases its with
    | nil => simp
    | cons a r' => rw [if_neg (by simp)]
  refine wpAny_binaryOp_repeat_ref (T := "list") (U := "int") (by decide) ⟨_, e, rfl⟩ (fun s' => typeIs_int s' k t) noFill_list_mul F.fills_int_mul F.slot_int_rmul repeat_list F.slot_int_index.lookup
    (call_meets F.slot_int_rmul (typeIs_int s k t) F.entry_int_rmul (F.args_int_rmul_2 _ _) (int___rmul___int_list k t l its.toArray n)
      ⟨e, rfl, ⟨_, e, rfl⟩, call_meets F.slot_list_mul ⟨_, e, rfl⟩ F.entry_list_mul (F.args_list_mul_2 _ _) (AutoListH.list___mul___list_int_3 l its.toArray n k t hfit hcap hlong) ⟨e, ?_⟩⟩)
  rw [hnew]
  exact ⟨.ref _, _, I.lnew (t' := s.toks) (r.rep k.toNat) (by rw [len_rep, Nat.mul_comm]; exact hz), rfl, q _ I.fresh⟩
end
section
variable {κ : Type} [DecidableEq κ]
def valV (kvs : List (κ × V)) (k : κ) : Option V := (kvs.find? fun kv => decide (kv.1 = k)).map (·.2)
def putK (kvs : List (κ × V)) (k : κ) (v : V) : List (κ × V) :=
  if (kvs.any fun kv => decide (kv.1 = k)) = true then kvs.map (fun kv => if kv.1 = k then (kv.1, v) else kv) else kvs ++ [(k, v)]
def dropK (kvs : List (κ × V)) (k : κ) : List (κ × V) := kvs.filter fun kv => decide (kv.1 ≠ k)
theorem valV_pos {p : κ × V} {r : List (κ × V)} {k : κ} (e : p.1 = k) : valV (p :: r) k = some p.2 := by simp [valV, List.find?_cons, e]
theorem valV_neg {p : κ × V} {r : List (κ × V)} {k : κ} (e : ¬ p.1 = k) : valV (p :: r) k = valV r k := by simp [valV, List.find?_cons, e]
theorem valV_any (k : κ) : ∀ kvs : List (κ × V), (kvs.any fun kv => decide (kv.1 = k)) = (valV kvs k).isSome
  | [] => rfl
  | p :: r => by
    rw [List.any_cons]
    by_cases e : p.1 = k
    · simp only [valV_pos e, decide_eq_true e, Bool.true_or, Option.isSome_some]
    · rw [valV_neg e, decide_eq_false e, Bool.false_or]; exact valV_any k r
theorem length_putK (kvs : List (κ × V)) (k : κ) (v : V) : (putK kvs k v).length ≤ kvs.length + 1 := by
  unfold putK
  split
  · rw [List.length_map]; omega
  · rw [List.length_append, List.length_cons, List.length_nil]; omega
theorem RelO.isSome_eq {o : Option V} {u : Option Value} (r : RelO o u) : o.isSome = u.isSome := by
  cases o with
  | none => cases u with
    | none => rfl
    | some _ => exact (show False from r).elim
  | some _ => cases u with
    | none => exact (show False from r).elim
    | some _ => rfl
theorem RelO.getD {o : Option V} {u : Option Value} {d : V} {d' : Value} (r : RelO o u) (rd : RelV d d') : RelV (o.getD d) (u.getD d') := by
  cases o with
  | none => cases u with
    | none => exact rd
    | some _ => exact (show False from r).elim
  | some _ => cases u with
    | none => exact (show False from r).elim
    | some _ => exact r
theorem KV.val {kvs : List (κ × V)} {vs : List (κ × Value)} (r : KV kvs vs) (k : κ) : RelO (valV kvs k) (valueAt vs k) := by
  unfold KV at r
  induction r with
  | nil => exact True.intro
  | @cons p q ps qs h t ih =>
    obtain ⟨h1, h2⟩ := h
    by_cases e : p.1 = k
    · have e' : q.1 = k := h1.symm.trans e
      have b : valueAt (q :: qs) k = some q.2 := by simp [valueAt, List.find?_cons, e']
      rw [valV_pos e, b]; exact h2
    · have e' : ¬ q.1 = k := fun z => e (h1.trans z)
      have b : valueAt (q :: qs) k = valueAt qs k := by simp [valueAt, List.find?_cons, e']
      rw [valV_neg e, b]; exact ih
theorem KV.any {kvs : List (κ × V)} {vs : List (κ × Value)} (r : KV kvs vs) (k : κ) : (kvs.any fun kv => decide (kv.1 = k)) = vs.any fun kv => decide (kv.1 = k) := by
  unfold KV at r
  induction r with
  | nil => rfl
  | cons h t ih => rw [List.any_cons, List.any_cons, ih, h.1]
theorem KV.repl {kvs : List (κ × V)} {vs : List (κ × Value)} (r : KV kvs vs) (k : κ) {y : V} {u : Value} (ry : RelV y u) :
    KV (kvs.map fun kv => if kv.1 = k then (kv.1, y) else kv) (vs.map fun kv => if kv.1 = k then (kv.1, u) else kv) := by
  unfold KV at r ⊢
  induction r with
  | nil => exact .nil
  | @cons p q ps qs h t ih =>
    rw [List.map_cons, List.map_cons]
    refine .cons ?_ ih
    obtain ⟨h1, h2⟩ := h
    by_cases e : p.1 = k
    · rw [if_pos e, if_pos (h1.symm.trans e)]; exact ⟨h1, ry⟩
    · rw [if_neg e, if_neg (fun z => e (h1.trans z))]; exact ⟨h1, h2⟩
theorem KV.put {kvs : List (κ × V)} {vs : List (κ × Value)} (r : KV kvs vs) (k : κ) {y : V} {u : Value} (ry : RelV y u) : KV (putK kvs k y) (stored vs k u) := by
  unfold putK stored
  rw [r.any k]
  by_cases e : (vs.any fun kv => decide (kv.1 = k)) = true
  · rw [if_pos e, if_pos e]; exact r.repl k ry
  · rw [if_neg e, if_neg e]; exact Paired.snoc r ⟨rfl, ry⟩
theorem KV.drop {kvs : List (κ × V)} {vs : List (κ × Value)} (r : KV kvs vs) (k : κ) : KV (dropK kvs k) (without vs k) := by
  unfold KV at r ⊢
  unfold dropK without
  induction r with
  | nil => exact .nil
  | @cons p q ps qs h t ih =>
    obtain ⟨h1, h2⟩ := h
    rw [List.filter_cons, List.filter_cons]
    by_cases e : p.1 = k
    · have a : ¬ decide (p.1 ≠ k) = true := by simp [e]
      have b : ¬ decide (q.1 ≠ k) = true := by simp [h1.symm.trans e]
      rw [if_neg a, if_neg b]; exact ih
    · have e' : ¬ q.1 = k := fun z => e (h1.trans z)
      have a : decide (p.1 ≠ k) = true := by simp [e]
      have b : decide (q.1 ≠ k) = true := by simp [e']
      rw [if_pos a, if_pos b]; exact .cons ⟨h1, h2⟩ ih
theorem KV.keys {kvs : List (κ × V)} {vs : List (κ × Value)} (r : KV kvs vs) : kvs.map (·.1) = vs.map (·.1) := by
  unfold KV at r
  induction r with
  | nil => rfl
  | cons h t ih => rw [List.map_cons, List.map_cons, ih, h.1]
theorem KV.length {kvs : List (κ × V)} {vs : List (κ × Value)} (r : KV kvs vs) : kvs.length = vs.length := Paired.length r
end
theorem kV_is {P : Program} {w : World} {k : Key} {u : Value} (r : RelV (kV k) u) : (mixKind P w).is k u = true := by
  cases k with
  | inl i => obtain ⟨t, e⟩ := (show ∃ t, u = Value.int i t from r); subst e; exact mixKind_int P w i t
  | inr x => obtain ⟨t, e⟩ := (show ∃ t, u = Value.str x t from r); subst e; exact mixKind_str P w x t
theorem items_are {P : Program} {w : World} : ∀ {ks : List Key} {us : List Value}, Vals (ks.map kV) us → ItemsAre (mixKind P w) ks us
  | [], _, r => by rw [List.map_nil] at r; cases r; exact .nil
  | k :: ks, _, r => by
    rw [List.map_cons] at r
    cases r with
    | cons h t => exact .cons (kV_is h) (items_are t)
abbrev KT (H : Hp) : List (List Key × V) → List (List Key × Addr × Value) → Prop := Paired fun p q => p.1 = q.1 ∧ H q.2.1 = some (.tup (p.1.map kV)) ∧ RelV p.2 q.2.2
theorem KT.val {H : Hp} {kvs : List (List Key × V)} {xs : List (List Key × Addr × Value)} (r : KT H kvs xs) (k : List Key) : RelO (valV kvs k) ((atKey xs k).map (·.2)) := by
  induction r with
  | nil => exact True.intro
  | @cons p q ps qs h t ih =>
    obtain ⟨h1, _, h2⟩ := h
    by_cases e : p.1 = k
    · have e' : q.1 = k := h1.symm.trans e
      have b : atKey (q :: qs) k = some q.2 := by simp [atKey, List.find?_cons, e']
      rw [valV_pos e, b]; exact h2
    · have e' : ¬ q.1 = k := fun z => e (h1.trans z)
      have b : atKey (q :: qs) k = atKey qs k := by simp [atKey, List.find?_cons, e']
      rw [valV_neg e, b]; exact ih
theorem KT.repl {H : Hp} {kvs : List (List Key × V)} {xs : List (List Key × Addr × Value)} (r : KT H kvs xs) (k : List Key) {y : V} {u : Value} (ry : RelV y u) :
    KT H (kvs.map fun kv => if kv.1 = k then (kv.1, y) else kv) (xs.map (putAt k u)) := by
  induction r with
  | nil => exact .nil
  | @cons p q ps qs h t ih =>
    rw [List.map_cons, List.map_cons]
    refine .cons ?_ ih
    obtain ⟨h1, h2, h3⟩ := h
    unfold putAt
    by_cases e : p.1 = k
    · rw [if_pos e, if_pos (h1.symm.trans e)]; exact ⟨h1, h2, ry⟩
    · rw [if_neg e, if_neg (fun z => e (h1.trans z))]; exact ⟨h1, h2, h3⟩
theorem KT.put {H : Hp} {kvs : List (List Key × V)} {xs : List (List Key × Addr × Value)} (r : KT H kvs xs) (k : List Key) {b : Addr} {y : V} {u : Value} (hb : H b = some (.tup (k.map kV))) (ry : RelV y u) :
    KT H (putK kvs k y) (storedH xs k b u) := by
  have e : (kvs.any fun kv => decide (kv.1 = k)) = (atKey xs k).isSome := by
    rw [valV_any, (r.val k).isSome_eq, Option.isSome_map]
  unfold putK storedH
  rw [e]
  by_cases q : (atKey xs k).isSome = true
  · rw [if_pos q, if_pos q]; exact r.repl k ry
  · rw [if_neg q, if_neg q]; exact Paired.snoc r ⟨rfl, hb, ry⟩
theorem KT.keeps {H H' : Hp} {kvs : List (List Key × V)} {xs : List (List Key × Addr × Value)} (r : KT H kvs xs) (ht : ∀ b ys, H b = some (.tup ys) → H' b = some (.tup ys)) : KT H' kvs xs :=
  Paired.mapP r fun _ _ z => ⟨z.1, ht _ _ z.2.1, z.2.2⟩
section
variable {P : Program} {w : World} {H : Hp} {h : Heap} {a : Addr}
theorem rd_of {u : HO} (ok : HOk P w H h) (e : Rd H a u) : ObjOk P w H h a u := e.ok ok
theorem dk_rd {kvs : List (Key × V)} (ok : HOk P w H h) (e : Rd H a (.dK kvs)) : kvs.length ≤ sizeLine ∧ (a == sysModules) = false ∧ ∃ vs, KV kvs vs ∧ h.DictOf (mixKind P w) a vs :=
  show ObjOk P w H h a (.dK kvs) from rd_of ok e
theorem dk_of {kvs : List (Key × V)} (ok : HOk P w H h) (e : H a = some (.dK kvs)) : kvs.length ≤ sizeLine ∧ (a == sysModules) = false ∧ ∃ vs, KV kvs vs ∧ h.DictOf (mixKind P w) a vs := dk_rd ok (.inl e)
theorem key_of {ks : List Key} (ok : HOk P w H h) (e : H a = some (.tup (ks.map kV))) : (tupleKind (mixKind P w)).is h ks a := by
  obtain ⟨_, its, r, ⟨o, h1, h2, n, h3⟩, _⟩ := (show ObjOk P w H h a (.tup (ks.map kV)) from ok a _ e)
  exact ⟨o, its.toArray, n, h1, h2, h3, by simpa using items_are r⟩
theorem dt_rd {kvs : List (List Key × V)} (ok : HOk P w H h) (e : Rd H a (.dT kvs)) : kvs.length ≤ sizeLine ∧ (a == sysModules) = false ∧
    ∃ xs, KT H kvs xs ∧ h.DictOfH (tupleKind (mixKind P w)) a xs := by
  obtain ⟨z, y, xs, r, o, es, ep, h1, h2, h3, h4, h5⟩ := (show ObjOk P w H h a (.dT kvs) from rd_of ok e)
  refine ⟨z, y, xs, r, o, es, ep, h1, h2, h3, h4, fun x hx => ?_, h5⟩
  have all : ∀ {l : List (List Key × V)} {m : List (List Key × Addr × Value)}, KT H l m → ∀ x ∈ m, (tupleKind (mixKind P w)).is h x.1 x.2.1 := by
    intro l m q
    induction q with
    | nil => intro x hx; exact nomatch hx
    | @cons p q ps qs hq t ih =>
      intro x hx
      rcases List.mem_cons.mp hx with e | hx
      · subst e
        exact key_of ok (by rw [← hq.1]; exact hq.2.1)
      · exact ih x hx
  exact all r x hx
theorem dt_of {kvs : List (List Key × V)} (ok : HOk P w H h) (e : H a = some (.dT kvs)) : kvs.length ≤ sizeLine ∧ (a == sysModules) = false ∧
    ∃ xs, KT H kvs xs ∧ h.DictOfH (tupleKind (mixKind P w)) a xs := dt_rd ok (.inl e)
end
def DGet (H : Hp) (a : Addr) (y : V) (r : Option V) : Prop :=
  (∃ kvs k, Rd H a (.dK kvs) ∧ y = kV k ∧ r = valV kvs k) ∨ ∃ kvs k b, Rd H a (.dT kvs) ∧ y = .ref b ∧ H b = some (.tup (k.map kV)) ∧ r = valV kvs k
def DPut (H : Hp) (a : Addr) (y v : V) (H' : Hp) : Prop :=
  (∃ kvs k, H a = some (.dK kvs) ∧ y = kV k ∧ kvs.length < sizeLine ∧ H' = upd H a (.dK (putK kvs k v))) ∨
  ∃ kvs k b, H a = some (.dT kvs) ∧ y = .ref b ∧ H b = some (.tup (k.map kV)) ∧ kvs.length < sizeLine ∧ H' = upd H a (.dT (putK kvs k v))
theorem DGet.k {H : Hp} {a : Addr} {kvs : List (Key × V)} {k : Key} (e : H a = some (.dK kvs)) : DGet H a (kV k) (valV kvs k) := .inl ⟨kvs, k, .inl e, rfl, rfl⟩
theorem DGet.t {H : Hp} {a b : Addr} {kvs : List (List Key × V)} {k : List Key} (e : H a = some (.dT kvs)) (eb : H b = some (.tup (k.map kV))) : DGet H a (.ref b) (valV kvs k) := .inr ⟨kvs, k, b, .inl e, rfl, eb, rfl⟩
theorem DPut.k {H : Hp} {a : Addr} {kvs : List (Key × V)} {k : Key} {v : V} (e : H a = some (.dK kvs)) (hl : kvs.length < sizeLine) : DPut H a (kV k) v (upd H a (.dK (putK kvs k v))) := .inl ⟨kvs, k, e, rfl, hl, rfl⟩
theorem DPut.t {H : Hp} {a b : Addr} {kvs : List (List Key × V)} {k : List Key} {v : V} (e : H a = some (.dT kvs)) (eb : H b = some (.tup (k.map kV))) (hl : kvs.length < sizeLine) :
    DPut H a (.ref b) v (upd H a (.dT (putK kvs k v))) := .inr ⟨kvs, k, b, e, rfl, eb, hl, rfl⟩
section
variable {X : Cx} {pins : List (Addr × Obj)} {σ : St} {H : Hp} {s : Shared} {a : Addr} {y v : V} {u r : Value} {o : Option V} {A : Around} {E : Value → Shared → Prop}
theorem Inv.big (I : Inv X pins σ H s) : sysModules < s.heap.objs.size := by
  have h : mainGlobals < s.heap.objs.size := (I.mod.glob.keeps I.bk).lt
  exact Nat.lt_trans (by decide) h
theorem d_getItem {Q : Value → Shared → Prop} (hu : A.units + 1 < cLine) (I : Inv X pins σ H s) (g : DGet H a y (some v)) (ry : RelV y u) (h : ∀ w' s', Inv X pins σ H s' → RelV v w' → Q w' s') :
    wpAny (model X.prog X.w) A (getItem (.ref a) u) Q E s := by
  rcases g with ⟨kvs, k, e, ey, l⟩ | ⟨kvs, k, b, e, ey, eb, l⟩
  · subst ey
    obtain ⟨z, hd, vs, rel, dd⟩ := dk_rd I.hok e
    obtain ⟨w', hw, rw'⟩ := RelO.some_of (v := v) (o := valueAt vs k) (by rw [l]; exact rel.val k)
    exact wpAny_getItem_of (kV_is ry) dd.mapOf hw (h w' _ (I.tok _) rw')
  · subst ey
    cases (show u = Value.ref b from ry)
    obtain ⟨z, hd, xs, rel, dd⟩ := dt_rd I.hok e
    obtain ⟨w', hw, rw'⟩ := RelO.some_of (v := v) (o := (atKey xs k).map (·.2)) (by rw [l]; exact rel.val k)
    obtain ⟨p, hp, hp2⟩ := Option.map_eq_some_iff.mp hw
    refine wpAny_getItem_heap (tupleKind_room_in1 hu) (key_of I.hok eb) dd hp ?_
    rw [hp2]
    exact h w' _ (I.tok _) rw'
theorem d_notIn {Q : Value → Shared → Prop} (hu : A.units + 1 < cLine) (I : Inv X pins σ H s) (g : DGet H a y o) (ry : RelV y u) (h : ∀ s', Inv X pins σ H s' → Q (.bool (!o.isSome)) s') :
    wpAny (model X.prog X.w) A (compareOp .NotIn u (.ref a)) Q E s := by
  rcases g with ⟨kvs, k, e, ey, l⟩ | ⟨kvs, k, b, e, ey, eb, l⟩
  · subst ey
    obtain ⟨z, hd, vs, rel, dd⟩ := dk_rd I.hok e
    refine wpAny_notIn_of (kV_is ry) hd dd.mapOf ?_
    rw [← (rel.val k).isSome_eq, ← l]
    exact h _ (I.tok _)
  · subst ey
    cases (show u = Value.ref b from ry)
    obtain ⟨z, hd, xs, rel, dd⟩ := dt_rd I.hok e
    refine wpAny_notIn_heap (tupleKind_room_in1 hu) (key_of I.hok eb) hd dd ?_
    have q := (rel.val k).isSome_eq
    rw [Option.isSome_map] at q
    rw [← q, ← l]
    exact h _ (I.tok _)
theorem d_write {h' : Heap} {t' : Nat} {ob : HO} (I : Inv X pins σ H s) (mu : Mut (H a)) (hs : Heap.SameBut a s.heap h') (he : ∃ q, h'.get? a = some q) (new : ObjOk X.prog X.w (upd H a ob) h' a ob) :
    Inv X pins σ (upd H a ob) { s with heap := h', toks := t' } :=
  I.write (x := a) (e := a) mu (.inl rfl) (fun b q hb z => (hs.2 b hb).trans z) he new
theorem dk_new {P : Program} {w : World} {H' : Hp} {h' : Heap} {kvs : List (Key × V)} {vs : List (Key × Value)} (z : kvs.length ≤ sizeLine) (hd : (a == sysModules) = false) (rel : KV kvs vs) (dd : h'.DictOf (mixKind P w) a vs) :
    ObjOk P w H' h' a (.dK kvs) := ⟨z, hd, vs, rel, dd⟩
theorem d_setItem {H' : Hp} {Q : Unit → Shared → Prop} (hu : A.units + 1 < cLine) (I : Inv X pins σ H s) (g : DPut H a y v H') (ry : RelV y u) (rv : RelV v r) (h : ∀ s', Inv X pins σ H' s' → Q () s') :
    wpAny (model X.prog X.w) A (setItem (.ref a) u r) Q E s := by
  rcases g with ⟨kvs, k, e, ey, l, eH⟩ | ⟨kvs, k, b, e, ey, eb, l, eH⟩
  · subst ey eH
    obtain ⟨z, hd, vs, rel, dd⟩ := dk_of I.hok e
    have hz : vs.length ≤ sizeLine := by rw [← rel.length]; exact z
    have hl : (putK kvs k v).length ≤ sizeLine := by have := length_putK kvs k v; omega
    refine wpAny_setItem_pairs (hsz := hz) (kV_is ry) dd fun h' dd' hs => h _ ?_
    have he : ∃ q, h'.get? a = some q := let ⟨q, _, _, hq, _⟩ := dd'; ⟨q, hq⟩
    exact d_write I (by rw [e]; exact True.intro) hs he (dk_new hl hd (rel.put k rv) dd')
  · subst ey eH
    cases (show u = Value.ref b from ry)
    obtain ⟨z, hd, xs, rel, dd⟩ := dt_of I.hok e
    have hz : xs.length ≤ sizeLine := by rw [← Paired.length rel]; exact z
    have hl : (putK kvs k v).length ≤ sizeLine := by have := length_putK kvs k v; omega
    refine wpAny_setItem_heap (hsz := hz) (tupleKind_room_in1 hu) (key_of I.hok eb) dd fun h' dd' hs => h _ ?_
    obtain ⟨q, es, ep, hq, h2, h3, h4, _, h5⟩ := dd'
    refine d_write I (by rw [e]; exact True.intro) hs ⟨q, hq⟩ ⟨hl, hd, _, (rel.put k eb rv).keeps fun c ys ec => ?_, q, es, ep, hq, h2, h3, h4, h5⟩
    rw [upd_ne (ne_of ec e (fun z => nomatch z))]
    exact ec
end
section
variable {X : Cx} {pins : List (Addr × Obj)} {σ : St} {H : Hp} {s : Shared} {a : Addr} {kvs : List (Key × V)} {k : Key} {u : Value} {A : Around} {E : Value → Shared → Prop}
theorem d_len {Q : Value → Shared → Prop} (I : Inv X pins σ H s) (e : Rd H a (.dK kvs)) (h : ∀ t s', Inv X pins σ H s' → Q (.int kvs.length t) s') : wpAny (model X.prog X.w) A (call (.builtin "len") [.ref a]) Q E s := by
  obtain ⟨z, hd, vs, rel, dd⟩ := dk_rd I.hok e
  refine call_len_dict hd dd (by rw [← rel.length]; rw [sizeLine_eq] at z; omega) ?_
  rw [← rel.length]
  exact h _ _ (I.tok _)
end
def NoSl (i : Expr) : Prop := ∀ ov iv, subscripted i false ov iv = operate [ov, iv] (getItem ov iv)
theorem subD_of {prog : Program} {w : World} {A : Around} {E : Value → Shared → Prop} {s : Shared} {env : Env} {value slice : Expr} {pos : Pos} {T id : String} {Q : Value → Shared → Prop}
    (hl : typeLookup (.type T) "__getitem__" = pure (some (.builtin id))) (hs : NoSl slice)
    (h : wpAny (model prog w) A (eval value env) (fun o s₁ => wpAny (model prog w) A (eval slice env) (fun i s₂ => s₂.TypeIs o T ∧ wpAny (model prog w) A (getItem o i) Q E s₂) E s₁) E s) :
    wpAny (model prog w) A (eval (.Subscript value slice pos) env) Q E s := by
  refine Subscript_ (wpAny_mono h (fun o s₁ h₁ => wpAny_mono h₁ (fun i s₂ h₂ => ?_) fun _ _ x => x) fun _ _ x => x)
  obtain ⟨hT, h₂⟩ := h₂
  unfold subscriptTail
  refine wpAny_bind ?_
  rw [getitemInPython_of_ne hT.not_modules]
  refine wpAny_bind (wpAny_specialOf hT hl ?_)
  have fin : wpAny (model prog w) A (subscripted slice false o i) (fun r s₃ => wpAny (model prog w) A (letTemporaryGo value o r >>= fun _ => pure r) Q E s₃) E s₂ := by
    rw [hs o i]
    exact wpAny_operating (wpAny_mono h₂ (fun r s₃ h₃ => wpAny_bind (wpAny_letTemporaryGo (wpAny_pure h₃))) fun _ _ x => x)
  first
    | exact wpAny_pure (wpAny_bind fin)
    | exact wpAny_bind (wpAny_pure (wpAny_bind fin))
    | exact wpAny_bind fin
theorem dict_typeIs {X : Cx} {pins : List (Addr × Obj)} {σ : St} {H : Hp} {s : Shared} {a : Addr} {y : V} {o : Option V} (I : Inv X pins σ H s) (g : DGet H a y o) : s.TypeIs (.ref a) "dict" := by
  rcases g with ⟨kvs, k, e, _, _⟩ | ⟨kvs, k, b, e, _, _, _⟩
  · obtain ⟨_, _, vs, _, dd⟩ := dk_rd I.hok e
    exact dd.typeIs
  · obtain ⟨_, _, xs, _, dd⟩ := dt_rd I.hok e
    exact dd.typeIs
def tDGet (td ty : TE) : TE := fun σ H Q => td σ H fun x H1 => ty σ H1 fun y H2 => ∃ a v, x = .ref a ∧ DGet H2 a y (some v) ∧ Q v H2
def sDPut (td ty tv : TE) : TS := fun D σ H => tv σ H fun v H1 => td σ H1 fun x H2 => ty σ H2 fun y H3 => ∃ a H4, x = .ref a ∧ DPut H3 a y v H4 ∧ D.nx σ H4
section
variable {X : Cx} {o i e value : Expr} {pos pos' tpos : Pos} {td ty tv : TE}
theorem pe_dget (hu : X.A.units + 1 < cLine) (ho : PE X o td) (hi : PE X i ty) (hs : NoSl i) : PE X (.Subscript o i pos) (tDGet td ty) := by
  intro pins s σ H Q I h
  refine subD_of PySem.F.slot_dict_getitem.lookup hs (thn (ho pins s σ H _ I h) fun u s1 ⟨x, H1, I1, rx, q1⟩ => thn (hi pins s1 σ H1 _ I1 q1) fun iv s2 ⟨y, H2, I2, ry, a, v, ex, g, q2⟩ => ?_)
  subst ex
  obtain rfl : u = Value.ref a := rx
  exact ⟨dict_typeIs I2 g, d_getItem hu I2 g ry fun w' s3 I3 rw' => ⟨v, H2, I3, rw', q2⟩⟩
theorem ps_dput (hu : X.A.units + 1 < cLine) (ho : PE X o td) (hi : PE X i ty) (hv : PE X value tv) (hs : swapsWith value (some (.Subscript o i pos')) pos.line X.env = pure false) :
    PS X (.Assign [.Subscript o i pos'] value pos) (sDPut td ty tv) := by
  intro pins s σ H D I h
  refine wpAny_Assign_Subscript (thn (hv pins s σ H _ I h) fun r s1 ⟨v, H1, I1, rv, q1⟩ => thn (ho pins s1 σ H1 _ I1 q1) fun u s2 ⟨x, H2, I2, rx, q2⟩ => thn (hi pins s2 σ H2 _ I2 q2) fun iv s3 ⟨y, H3, I3, ry, a, H4, ex, g, q3⟩ => ?_) hs
  subst ex
  obtain rfl : u = Value.ref a := rx
  exact d_setItem hu I3 g ry rv fun s4 I4 => ⟨σ, H4, I4, q3⟩
end
theorem dk_empty {P : Program} {w : World} {H : Hp} (h : Heap) (hb : sysModules < h.objs.size) : ObjOk P w H (h.push { cls := .type "dict", data := .dict #[] }) h.objs.size (.dK []) :=
  ⟨Nat.zero_le _, beq_eq_false_iff_ne.mpr (Ne.symm (Nat.ne_of_lt hb)), [], .nil, Heap.DictOf.new h⟩
def tDNewK : TE := fun _ H Q => ∀ p, H p = none → Q (.ref p) (upd H p (.dK []))
section
variable {X : Cx} {pos : Pos}
theorem pe_dnewK : PE X (.Dict [] [] pos) tDNewK := fun pins s σ H Q I h =>
  wpAny_Dict_empty ⟨.ref s.heap.objs.size, _, I.laid (a := s.heap.objs.size) (o := .dK []) (t' := s.toks) (fun _ _ q => Heap.get?_push_of_some _ q) (Nat.le_refl _) (dk_empty s.heap I.big), rfl, h _ (I.hok.fresh (Nat.le_refl _))⟩
end
def tPairs : List (TE × TE) → St → Hp → (List (V × V) → Hp → Prop) → Prop
  | [], _, H, Q => Q [] H
  | (tk, tv) :: r, σ, H, Q => tk σ H fun x H1 => tv σ H1 fun y H2 => tPairs r σ H2 fun ps H3 => Q ((x, y) :: ps) H3
abbrev VV : List (V × V) → List (Value × Value) → Prop := Paired fun p q => RelV p.1 q.1 ∧ RelV p.2 q.2
def PPs (X : Cx) (pos : Pos) (keys : List (Option Expr)) (values : List Expr) (trs : List (TE × TE)) : Prop :=
  ∀ (pins : List (Addr × Obj)) (s : Shared) (σ : St) (H : Hp) (Q : List (V × V) → Hp → Prop), Inv X pins σ H s → tPairs trs σ H Q →
    wpAny (model X.prog X.w) X.A (evalPairs (pairTrees keys values X.env pos)) (fun vs s' => ∃ ps H', Inv X pins σ H' s' ∧ VV ps vs ∧ Q ps H') X.xe s
theorem pps_nil {X : Cx} {pos : Pos} : PPs X pos [] [] [] := fun pins s σ H Q I h => pairTrees_nil_walk ⟨[], H, I, .nil, h⟩
theorem pps_cons {X : Cx} {pos : Pos} {k v : Expr} {ks : List (Option Expr)} {vs : List Expr} {tk tv : TE} {trs : List (TE × TE)} (hk : PE X k tk) (hv : PE X v tv) (hr : PPs X pos ks vs trs) :
    PPs X pos (some k :: ks) (v :: vs) ((tk, tv) :: trs) := fun pins s σ H Q I h =>
  pairTrees_cons_walk (thn (hk pins s σ H _ I h) fun u s1 ⟨x, H1, I1, rx, q1⟩ => thn (hv pins s1 σ H1 _ I1 q1) fun w2 s2 ⟨y, H2, I2, ry, q2⟩ =>
    thn (hr pins s2 σ H2 _ I2 q2) fun ws s3 ⟨ps, H3, I3, rel, q3⟩ => ⟨(x, y) :: ps, H3, I3, .cons ⟨rx, ry⟩ rel, q3⟩)
def mergeK (kvs more : List (Key × V)) : List (Key × V) := more.foldl (fun acc kv => putK acc kv.1 kv.2) kvs
theorem KV.merge : ∀ {more : List (Key × V)} {rs : List (Key × Value)} {kvs : List (Key × V)} {vs : List (Key × Value)}, KV more rs → KV kvs vs → KV (mergeK kvs more) (merged vs rs) := by
  intro more rs kvs vs r
  unfold KV at r
  induction r generalizing kvs vs with
  | nil => intro q; exact q
  | @cons p q ps qs h t ih =>
    intro r0
    have e : KV (putK kvs p.1 p.2) (stored vs q.1 q.2) := by
      have := r0.put p.1 h.2
      rw [← h.1]; exact this
    exact ih e
theorem length_mergeK : ∀ (more kvs : List (Key × V)), (mergeK kvs more).length ≤ kvs.length + more.length
  | [], kvs => by show kvs.length ≤ kvs.length + 0; omega
  | p :: r, kvs => by
    have h1 := length_mergeK r (putK kvs p.1 p.2)
    have h2 := length_putK kvs p.1 p.2
    show (mergeK (putK kvs p.1 p.2) r).length ≤ _
    rw [List.length_cons]; omega
theorem carries_of {P : Program} {w : World} : ∀ {kvs : List (Key × V)} {ws : List (Value × Value)}, VV (kvs.map fun kv => (kV kv.1, kv.2)) ws → ∃ rs, Carries (mixKind P w) ws rs ∧ KV kvs rs
  | [], _, r => by rw [List.map_nil] at r; cases r; exact ⟨[], True.intro, .nil⟩
  | p :: kvs, _, r => by
    rw [List.map_cons] at r
    cases r with
    | @cons a b as bs h t =>
      obtain ⟨rs, c, q⟩ := carries_of (P := P) (w := w) t
      obtain ⟨b1, b2⟩ := b
      exact ⟨(p.1, b2) :: rs, ⟨kV_is h.1, rfl, c⟩, .cons ⟨rfl, h.2⟩ q⟩
def tDisp (trs : List (TE × TE)) : TE := fun σ H Q => ∀ p, H p = none → tPairs trs σ (upd H p (.dK [])) fun ps H2 => H2 p = some (.dK []) ∧ ∃ kvs : List (Key × V), ps = kvs.map (fun kv => (kV kv.1, kv.2)) ∧ kvs.length ≤ 15 ∧ Q (.ref p) (upd H2 p (.dK (mergeK [] kvs)))
theorem pe_disp {X : Cx} {pos : Pos} {keys : List (Option Expr)} {values : List Expr} {trs : List (TE × TE)} (h : PPs X pos keys values trs) (hall : keys.all (·.isSome) = true) (hl : keys.length = values.length) (h0 : keys ≠ [])
    (h15 : keys.length ≤ 15) : PE X (.Dict keys values pos) (tDisp trs) := by
  intro pins s σ H Q I q
  have hn := I.hok.fresh (Nat.le_refl s.heap.objs.size)
  have I1 := I.laid (a := s.heap.objs.size) (o := .dK []) (h' := s.heap.push { cls := .type "dict", data := .dict #[] }) (t' := s.toks) (fun _ _ q => Heap.get?_push_of_some _ q) (Nat.le_refl _) (dk_empty s.heap I.big)
  refine wpAny_Dict_walk (knd := mixKind X.prog X.w) hall hl h0 h15 (thn (h pins _ σ _ _ I1 (q _ hn)) fun ws s2 ⟨ps, H2, I2, rel, e, kvs, ep, lk, q2⟩ => ?_)
  subst ep
  obtain ⟨rs, c, rk⟩ := carries_of (P := X.prog) (w := X.w) rel
  obtain ⟨z, hd, vs0, r0, dd⟩ := dk_of I2.hok e
  cases r0
  refine ⟨rs, c, dd, fun h' dd' hs => ⟨.ref s.heap.objs.size, _, ?_, rfl, q2⟩⟩
  have hz : (mergeK [] kvs).length ≤ sizeLine := by
    have h1 := length_mergeK kvs []
    rw [List.length_nil] at h1
    rw [sizeLine_eq]; omega
  have he : ∃ q, h'.get? s.heap.objs.size = some q := let ⟨q, _, _, hq, _⟩ := dd'; ⟨q, hq⟩
  exact d_write I2 (by rw [e]; exact True.intro) hs he (dk_new hz hd (rk.merge .nil) dd')
structure M1 (X : Cx) (o : Expr) (m : Str) (apos : Pos) (e : Expr) (cpos : Pos) : Prop where
  base : attributeBase o m X.env (eval o X.env) = eval o X.env
  few : ((backTo cpos (starEach [e] X.env)).all (fun x => !x.1) && (backToKw cpos (keywordEach [] X.env)).all (fun x => x.1.isSome)
    && decide (([e] : List Expr).length + ([] : List Keyword).length + (if ([] : List Keyword).isEmpty then 0 else 1) < 30)) = true
  line : (apos.endLine == cpos.line) = true
  trees : backTo cpos (starEach [e] X.env) = [(false, eval e X.env)]
structure M2 (X : Cx) (o : Expr) (m : Str) (apos : Pos) (e f : Expr) (cpos : Pos) : Prop where
  base : attributeBase o m X.env (eval o X.env) = eval o X.env
  few : ((backTo cpos (starEach [e, f] X.env)).all (fun x => !x.1) && (backToKw cpos (keywordEach [] X.env)).all (fun x => x.1.isSome)
    && decide (([e, f] : List Expr).length + ([] : List Keyword).length + (if ([] : List Keyword).isEmpty then 0 else 1) < 30)) = true
  line : (apos.endLine == cpos.line) = true
  trees : backTo cpos (starEach [e, f] X.env) = [(false, eval e X.env), (false, eval f X.env)]
end L2
namespace Att
open PySem PySem.W PySem.Calls PyProof.Rows
theorem ints_of_wellAll {P : Params} {h : Heap} : ∀ (ns : List Int) (vs : List Value), WellAll P h vs (ns.map WData.int) → IntsAre vs ns := by
  intro ns
  induction ns with
  | nil =>
    intro vs w
    rw [List.map_nil] at w
    cases w
    exact .nil
  | cons n ns ih =>
    intro vs w
    rw [List.map_cons] at w
    cases w with
    | cons a b =>
      cases a
      exact .cons _ _ (ih _ b)
theorem script_of {l : OpenLaw} {n : Nat} (hn : l.most = some n) {P : Params} {h : Heap} {args : List WData} {vals : List Value}
    (hpre : l.row.toRowW.claim.pre args = true) (hwl : WellAll P h vals args) :
    ∃ a vs ns, vals = [Value.ref a] ∧ args = [WData.list (ns.map WData.int)] ∧ h.get? a = some { cls := .type "list", data := .seq vs.toArray } ∧ IntsAre vs ns ∧ ns.length ≤ n := by
  have hsh : WShape.hasAll [] args [.list .int] = true := (pre_splitW hpre).1
  have hc : l.pre.holds [] { args := args } = true := (pre_splitW hpre).2
  obtain ⟨d, r, rfl, h1, h2⟩ := hasAllW_cons hsh
  obtain rfl := hasAllW_nil h2
  obtain ⟨xs, rfl, h3⟩ := hasW_list h1
  obtain ⟨ns, rfl⟩ := items_int h3
  have hlen : ns.length ≤ n := by
    unfold OpenLaw.pre at hc
    have h4 : (WTm.not (.lt (.lit (.int (n : Int))) (.len (.arg 0)))).holds [] { args := [.list (ns.map .int)] } = true := by
      have h4 := (holds_andW hc).1
      rw [hn] at h4
      exact h4
    have h5 := condW_of h4 (w_not (w_lt w_lit (w_len_list (w_arg rfl))))
    rw [List.length_map] at h5
    refine Nat.le_of_not_lt fun q => ?_
    have q' : (n : Int) < ((ns.length : Nat) : Int) := by omega
    first
      | (rw [decide_eq_true q'] at h5; exact absurd h5 (by decide))
      | (simp at h5; omega)
  cases hwl with
  | cons w1 w2 =>
    cases w2
    cases w1 with
    | list ho hall => exact ⟨_, _, ns, rfl, rfl, ho, ints_of_wellAll ns _ hall, hlen⟩
theorem post_true (l : OpenLaw) (args : List WData) : l.row.toRowW.claim.post args (.bool true) args = true :=
  postW_of (r := l.row.toRowW) (X := (true == true))
    (show WShape.has [] (.bool true) .bool = true by first | rfl | decide | simp [WShape.has, WShape.arms, WShape.armsAll])
    (show (WTm.eq .res (.lit (.bool true))).value [] { args := args, res := some (.bool true), after := args } = some (.bool (true == true)) from w_eq_bool (w_res rfl) w_lit) rfl
theorem attach_call {l : OpenLaw} {n : Nat} {q : Program} {loose : List Str} {XP : (Str → Option Value) → Heap → Prop} {YP : World → Heap → Prop} {d : DefRec}
    (hn : l.most = some n) (hdf : d.params.defaults = [])
    (call : ∀ (w : World) (s₀ s₁ : Shared) (mg mb : Str → Option Value) (fa : Addr) (o : Obj) (pm cd doc : Value) (a : Addr) (vs : List Value) (ns : List Int),
      Ground q loose [] XP w s₀ mg mb s₁.heap → YP w s₁.heap →
      s₁.heap.get? fa = some o → o.data = .func (docDef d.name d.params d.body d.scope pm cd doc) → s₁.heap.CodeRec cd d.name → mg d.name = some (.ref fa) →
      s₁.heap.get? a = some { cls := .type "list", data := .seq vs.toArray } → IntsAre vs ns → ns.length ≤ n → s₁.gens = #[] →
      codeAny (model l.prog w) callerA (.call (.ref fa) ⟨[.ref a], []⟩) (fun r s' => r = .ok (.ret (.bool true)) ∧ OldK s₁.heap s'.heap ∧ s'.os = s₁.os ∧ AllBare s'.gens) s₁) :
    WalkO q loose XP YP l.row.toRowW d [] (fun f vs => PySem.call f vs) := by
  intro w s₀ s₁ mg mb G Y fa o pm cd doc dV kV ho hd hcd hD hmg hg args vals as hpre hlay hrd hwl hlo
  obtain rfl : dV = .none := Dflts.none hD hdf
  obtain rfl : kV = .none := Dflts.noKw hD
  obtain ⟨a, vs, ns, rfl, rfl, hobj, hints, hlen⟩ := script_of hn hpre hwl
  refine enter_call (codeAny_mono (call w s₀ s₁ mg mb fa o pm cd doc a vs ns G Y ho (fd_plain hd) hcd hmg hobj hints hlen hg) fun r s' hq => ?_)
  obtain ⟨rfl, h2, h3, h4⟩ := hq
  exact ⟨.inl ⟨.bool true, .bool true, [], rfl, fun _ => rfl, .bool true, post_true l _, fun _ => ⟨List.Pairwise.nil, fun _ hm => (nomatch hm)⟩⟩, h2, h3, h4⟩
section
variable {prog : Program} {w : World} {A : Around} {E : Value → Shared → Prop} {s : Shared} {K : Frag}
def ledger (h : Heap) (L d : Addr) : List (Addr × Obj) := (List.range h.objs.size).filterMap fun a => if a = L ∨ a = d then none else (h.get? a).map fun o => (a, o)
end
end Att
namespace L2
open PySem PySem.Spec PyProof.Rows
theorem vals_ints : ∀ {vs : List Value} {ns : List Int}, IntsAre vs ns → Vals (ns.map V.int) vs
  | _, _, .nil => .nil
  | _, _, .cons n t h => .cons ⟨t, rfl⟩ (vals_ints h)
def Only (H : Hp) : Prop := ∀ b, H b = none ∨ ∃ o xs, H b = some (.frz o (.lst xs))
theorem law_call {P : Program} {w : World} {K : PySem.W.Frag} {mg mb : Str → Option Value} {CX : CXT} {k : Nat} {fa a : Addr} {fd : FuncData} {x : Str} {sp : Sp} {s₁ : Shared} {vs : List Value} {ns : List Int}
    (KX : K.In s₁.heap) (hns : s₁.heap.Ns mainGlobals mg) (hb : s₁.heap.Ns builtinsNs mb) (hbb : ∀ x : Str, x ≠ "__name__" → mb x = bootBuiltins x) (hlim : s₁.heap.NoLimit) (hbm : ∃ bm ob, mg "__builtins__" = some (.ref bm) ∧ bm ≠ builtinsNs ∧ s₁.heap.get? bm = some ob ∧ ob.cls = .type "module" ∧ ob.dict = some builtinsNs ∧ ob.data = .plain) (hg : s₁.gens = #[])
    (ha : s₁.heap.get? a = some { cls := .type "list", data := .seq vs.toArray }) (hi : IntsAre vs ns) (hl : ns.length ≤ sizeLine) (hr : Room k callerA)
    (F : ∀ base : Heap, K.In base → base.Ns mainGlobals mg → FnOk P w K mg base CX k fa fd [x] sp) (hbind : ∀ (s : Shared) (u : Value), BindsTo s fd ⟨[u], []⟩ [(x, u)])
    (hsp : ∀ H : Hp, Only H → SqL K H a (ns.map V.int) → sp [.ref a] H (fun v _ => v = .bl true) fun _ _ _ => False)
    (hCX : ∀ H e s', CX [] H s₁ (fun _ _ _ => False) e s' → False) :
    codeAny (model P w) callerA (.call (.ref fa) ⟨[.ref a], []⟩) (fun r s' => r = .ok (.ret (.bool true)) ∧ OldK s₁.heap s'.heap ∧ s'.os = s₁.os ∧ AllBare s'.gens) s₁ := by
  have rv := vals_ints hi
  have lenV := hi.length
  have core : ∀ H : Hp, Only H → SqL K H a (ns.map V.int) → HOk P w H s₁.heap → (∀ b, H b ≠ none → b = a) → (H a ≠ none → K.lookup a = none) →
      codeAny (model P w) callerA (.call (.ref fa) ⟨[.ref a], []⟩) (fun r s' => r = .ok (.ret (.bool true)) ∧ OldK s₁.heap s'.heap ∧ s'.os = s₁.os ∧ AllBare s'.gens) s₁ := by
    intro H hO hS hok hA hK
    have base_of : ∀ {b : Addr} {o : Obj}, s₁.heap.get? b = some o → H b = none → (hidT s₁.heap H).get? b = some o := fun e n => hidT_get e n
    have noA : ∀ {b : Addr} {o : Obj} {es : Array DictEntry} {ep : Nat}, s₁.heap.get? b = some o → o.data = .dict es ep → H b = none := fun {b o es ep} e d => by
      cases q : H b with
      | none => rfl
      | some u =>
        have e' : b = a := hA b (by rw [q]; simp)
        subst e'
        rw [ha] at e; cases e
        have d' : Data.seq vs.toArray _ = Data.dict es ep := d
        cases d'
    have nsK : ∀ {b : Addr} {m : Str → Option Value}, s₁.heap.Ns b m → (hidT s₁.heap H).Ns b m := fun {b m} ⟨o, es, ep, e, d, r⟩ => ⟨o, es, ep, base_of e (noA e d), d, r⟩
    have hKb : K.In (hidT s₁.heap H) := fun b o e => base_of (KX b o e) (by
      cases q : H b with
      | none => rfl
      | some u =>
        have e' : b = a := hA b (by rw [q]; simp)
        subst e'
        rw [hK (by rw [q]; simp)] at e; cases e)
    have hM : Mod K mg (hidT s₁.heap H) := ⟨hKb, nsK hns, ⟨mb, nsK hb, hbb⟩, let ⟨mc, h1, h2⟩ := hlim; ⟨mc, nsK h1, h2⟩, by
      obtain ⟨bm, ob, b1, b2, b3, b4, b5⟩ := hbm
      refine ⟨bm, ob, b1, b2, base_of b3 ?_, b4, b5⟩
      cases q : H bm with
      | none => rfl
      | some u =>
        have e' : bm = a := hA bm (by rw [q]; simp)
        subst e'
        rw [ha] at b3
        cases b3
        injection b4 with b4
        exact absurd b4 (by decide)⟩
    have e0 : Env0 P w K mg (hidT s₁.heap H) callerA [] s₁ H := ⟨rfl, hM, fun b o e => of_hidT e, Nat.le_of_eq (hidT_size _ _), trivial, fun b hb => absurd (show b ∈ ([] : List Addr) from hb) (by simp), hok, .of_eq hg⟩
    refine codeAny_mono ((F _ hKb (nsK hns)).run callerA [] s₁ H ⟨[.ref a], []⟩ [.ref a] [.ref a] _ _ hr e0 (hbind s₁ (.ref a)) (.cons rfl .nil) (hsp H hO hS)) fun r s' h => ?_
    cases r with
    | error e => exact (hCX H e s' h).elim
    | ok fl =>
      cases fl with
      | next => exact False.elim h
      | brk => exact False.elim h
      | cont => exact False.elim h
      | ret u =>
        obtain ⟨v, H', os, bare, un, hok', r', q⟩ := h
        have q' : v = .bl true := q
        subst q'
        obtain rfl : u = Value.bool true := r'
        refine ⟨rfl, OldK.of_keep fun b o e => ?_, os, bare⟩
        cases q : H b with
        | none => exact un.keep b o e q (by intro z; exact absurd (show b ∈ ([] : List Addr) from z) (by simp)) (by simp)
        | some u =>
          rcases hO b with z | ⟨ob, xs, z⟩
          · rw [q] at z; cases z
          · have z2 := un.frzs b ob _ z
            obtain ⟨e1, _⟩ := hok b _ z
            obtain ⟨e2, _⟩ := hok' b _ z2
            rw [e] at e1; cases e1
            exact e2
  cases hk : K.lookup a with
  | some o =>
    have e := KX a o hk
    rw [ha] at e
    cases e
    refine core (fun _ => none) (fun _ => .inl rfl) (.inr ⟨_, vs.toArray, _, hk, rfl, rfl, rfl, by rw [List.size_toArray, lenV]; exact hl, by simpa using rv⟩) (fun b u z => by have z' : (none : Option HO) = some u := z; cases z') (fun b z => absurd rfl z) fun z => absurd rfl z
  | none =>
    refine core (fun b => if b = a then some (.frz { cls := .type "list", data := .seq vs.toArray } (.lst (ns.map V.int))) else none) (fun b => ?_) (.inl (.inr ⟨{ cls := .type "list", data := .seq vs.toArray }, if_pos rfl⟩)) (fun b u z => ?_) (fun b z => ?_) fun _ => hk
    · by_cases hb : b = a
      · exact .inr ⟨_, _, if_pos hb⟩
      · exact .inl (if_neg hb)
    · by_cases hb : b = a
      · have z' := (if_pos hb).symm.trans z
        cases z'
        subst hb
        exact ⟨ha, by rw [List.length_map]; exact hl, vs, _, rv, ha⟩
      · have z' := (if_neg hb).symm.trans z
        cases z'
    · by_cases hb : b = a
      · exact hb
      · exact absurd (if_neg hb) z
abbrev KOf {K : PySem.W.Frag} {h : Heap} (_ : K.In h) : PySem.W.Frag := K
theorem walk_of {l : PySem.W.OpenLaw} {n k : Nat} {q : Program} {loose : List Str} {XP : (Str → Option Value) → Heap → Prop} {YP : World → Heap → Prop} {d : DefRec} {K : Params → PySem.W.Frag} {CX : World → CXT} {sp : World → Sp} {x : Str}
    (hn : l.most = some n) (hn2 : n ≤ sizeLine) (hdf : d.params.defaults = []) (hr : Room k callerA)
    (hY : ∀ (w : World) (h : Heap), YP w h → (K w.params).In h)
    (F : ∀ (w : World) (mg : Str → Option Value) (fa : Addr) (h : Heap), (K w.params).In h → h.Ns mainGlobals mg → mg d.name = some (.ref fa) →
      ∃ fd : FuncData, (∀ (s : Shared) (u : Value), BindsTo s fd ⟨[u], []⟩ [(x, u)]) ∧
        ∀ base : Heap, (K w.params).In base → base.Ns mainGlobals mg → FnOk l.prog w (K w.params) mg base (CX w) k fa fd [x] (sp w))
    (hsp : ∀ (w : World) (H : Hp) (a : Addr) (ns : List Int), ns.length ≤ n → Only H → SqL (K w.params) H a (ns.map V.int) → sp w [.ref a] H (fun v _ => v = .bl true) fun _ _ _ => False)
    (hCX : ∀ (w : World) (H : Hp) (s : Shared) (e : Value) (s' : Shared), CX w [] H s (fun _ _ _ => False) e s' → False) :
    PySem.W.WalkO q loose XP YP l.row.toRowW d [] (fun f vs => PySem.call f vs) := by
  refine Att.attach_call hn hdf fun w s₀ s₁ mg mb fa o pm cd doc a vs ns G Y ho hd hcd hmg hobj hints hlen hg => ?_
  have KX := hY w _ Y
  obtain ⟨fd, hb, hF⟩ := F w mg fa _ KX G.T.g hmg
  exact law_call KX G.T.g G.T.b G.T.builtins G.T.nolimit G.T.bmain hg hobj hints (Nat.le_trans hlen hn2) hr hF hb (fun H hO hS => hsp w H a ns hlen hO hS) fun H e s' => hCX w H s₁ e s'
def inClass (s : Stmt) (j : Nat) : Stmt := match s with
  | .ClassDef _ _ _ body _ _ _ _ _ _ _ => body.getD j (.Pass ⟨0, 0, 0, 0⟩)
  | _ => .Pass ⟨0, 0, 0, 0⟩
def defArgs (s : Stmt) : Arguments := match s with
  | .FunctionDef _ a _ _ _ _ _ _ _ _ => a
  | _ => { posonlyargs := [], args := [], vararg := none, kwonlyargs := [], kw_defaults := [], kwarg := none, defaults := [] }
def defBody (s : Stmt) : List Stmt := match s with
  | .FunctionDef _ _ b _ _ _ _ _ _ _ => b
  | _ => []
def defScope (s : Stmt) : Scope := match s with
  | .FunctionDef _ _ _ _ _ _ sc _ _ _ => sc
  | _ => { kind := .function, names := [], isGenerator := false, isCoroutine := false }
abbrev CX0 : CXT := fun _ _ _ _ _ _ => False
abbrev E0 : XK := fun _ _ _ => False
structure Fun (K : PySem.W.Frag) (x qual : Str) (st : Stmt) (f : Addr) (fd : FuncData) : Prop where
  ex : ∃ (oc : Value) (od : Option Addr) (kV doc pm : Value) (an : Option Addr) (cdv ct : Value) (osl : Array (Option Value)),
    fd = PySem.W.fnOf x qual (defArgs st) (defBody st) (defScope st) .none kV doc pm an cdv ct ∧ K.lookup f = some ⟨oc, od, .func fd, osl⟩ ∧ PySem.W.codeIn K cdv qual = true
  kp : PySem.W.keepIn K (.ref f) = true
section
variable {P : Program} {w : World} {K : PySem.W.Frag} {mg : Str → Option Value} {base : Heap}
theorem Fun.ok {x qual : Str} {st : Stmt} {f : Addr} {fd : FuncData} {N ps : List Str} {k : Nat} {sp : Sp} (F : Fun K x qual st f fd) (S : FnScope N ps (defScope st)) (len : ∀ vs H Q E, sp vs H Q E → vs.length = ps.length)
    (hbody : ∀ (cdv : Value) (A : Around) (outer : List Env) (s : Shared) (H : Hp) (vs : List V) (Q : VK) (E : XK), Room k (A.deeper (envOfC qual (defScope st) s.heap.objs.size f cdv)) → sp vs H Q E →
      ∃ t, PSs (cxOf CX0 P w K mg base N qual (defScope st) f cdv A outer s H E).nox (defBody st) t ∧ t { nx := fun _ H' => Q .non H', rt := Q } (start N vs) H) : FnOk P w K mg base CX0 (k + 1) f fd ps sp := by
  obtain ⟨oc, od, kV, doc, pm, an, cdv, ct, osl, rfl, lk, hcd⟩ := F.ex
  refine fn_of lk hcd S len fun A outer s H vs Q E hr hsp => ?_
  obtain ⟨t, h, q⟩ := hbody cdv A outer s H vs Q E hr hsp
  exact ⟨t, h.nox, q⟩
theorem Fun.binds {x qual : Str} {st : Stmt} {f : Addr} {fd : FuncData} {ps : List Str} (F : Fun K x qual st f fd)
    (h : ∀ (kV doc pm : Value) (an : Option Addr) (cdv ct : Value) (us : List Value), us.length = ps.length → bindArgs (PySem.W.fnOf x qual (defArgs st) (defBody st) (defScope st) .none kV doc pm an cdv ct) ⟨us, []⟩ = pure (ps.zip us)) : Binds K fd ps [] := by
  obtain ⟨oc, od, kV, doc, pm, an, cdv, ct, osl, rfl, lk, hcd⟩ := F.ex
  exact .all (h kV doc pm an cdv ct)
theorem fun_mk {x qual : Str} {st : Stmt} {f : Addr} {oc : Value} {od an : Option Addr} {osl : Array (Option Value)} {kV doc pm cdv ct : Value} (l : K.lookup f = some ⟨oc, od, .func (PySem.W.fnOf x qual (defArgs st) (defBody st) (defScope st) .none kV doc pm an cdv ct), osl⟩)
    (c : PySem.W.codeIn K cdv qual = true) (k : PySem.W.keepIn K (.ref f) = true) : Fun K x qual st f (PySem.W.fnOf x qual (defArgs st) (defBody st) (defScope st) .none kV doc pm an cdv ct) := ⟨⟨oc, od, kV, doc, pm, an, cdv, ct, osl, rfl, l, c⟩, k⟩
end
section
variable {X : Cx}
theorem pv (i : Nat) {x : Str} {pos : Pos} (hN : X.N[i]? = some x := by rfl) (hv : Vis X.env.scope x := by first | exact Or.inl rfl | exact Or.inr (Or.inl rfl) | exact Or.inr (Or.inr rfl)) (hd : (x == ("__debug__" : Str)) = false := by decide)
    (hcd : (x == ("__classdict__" : Str)) = false := by decide) : PE X (.Name x pos) (tVar i) := pe_var hN hv hd hcd
theorem call_lenD : CallR X (.builtin "len") (fun xs H Q => ∃ a kvs, xs = [V.ref a] ∧ H a = some (.dK kvs) ∧ Q (.int kvs.length) H) := by
  intro pins s σ H xs us Q I r h
  obtain ⟨a, kvs, rfl, ha, q⟩ := h
  obtain ⟨u, rfl, ru⟩ := vals1 r
  cases ru
  exact d_len I (.inl ha) fun t s' I' => ⟨.int kvs.length, H, I', ⟨t, rfl⟩, q⟩
end
theorem iteF {A B : Prop} (h : B) : if false = true then A else B := by
  rw [if_neg Bool.false_ne_true]
  exact h
theorem iteT {A B : Prop} (h : A) : if true = true then A else B := by
  rw [if_pos rfl]
  exact h
def Same (H H' : Hp) : Prop := ∀ b o, H b = some o → H' b = some o
theorem Same.trans {H H1 H2 : Hp} (a : Same H H1) (b : Same H1 H2) : Same H H2 := fun c o h => b c o (a c o h)
theorem Same.free {H H' : Hp} (e : Same H H') {l : Addr} (h : H' l = Option.none) : H l = Option.none := by
  cases q : H l with
  | none => rfl
  | some o =>
    rw [e l o q] at h
    cases h
theorem Same.seq {K : PySem.W.Frag} {H H' : Hp} {a : Addr} {xs : List V} (e : Same H H') (h : SqL K H a xs) : SqL K H' a xs := by
  rcases h with (h | ⟨o, h⟩) | h
  · exact .inl (.inl (e _ _ h))
  · exact .inl (.inr ⟨o, e _ _ h⟩)
  · exact .inr h
structure Pass (fs : List Addr) (n : Nat) (H : Hp) (h h' : Heap) : Prop where
  keep : ∀ b o, h.get? b = some o → b ∉ fs → (b < n ∨ H b ≠ none ∨ ∀ vs, o.data ≠ .fields vs) → h'.get? b = some o
  slot : ∀ b o, h.get? b = some o → b ∈ fs → ∃ sl, h'.get? b = some { o with slots := sl }
  there : ∀ b o, h.get? b = some o → ∃ o', h'.get? b = some o'
theorem Pass.trans {fs : List Addr} {n : Nat} {H : Hp} {h h1 h2 : Heap} (x : Pass fs n H h h1) (y : Pass fs n H h1 h2) : Pass fs n H h h2 :=
  ⟨fun b o e f g => y.keep b o (x.keep b o e f g) f g, fun b o e f => by
    obtain ⟨sl, e1⟩ := x.slot b o e f
    obtain ⟨sl2, e2⟩ := y.slot b _ e1 f
    exact ⟨sl2, e2⟩, fun b o e => by
    obtain ⟨o1, e1⟩ := x.there b o e
    exact y.there b o1 e1⟩
def Head (n : Nat) (H : Hp) (h : Heap) (a : Addr) (vs : Array Value) (fl : Value) : Prop :=
  (vs[1]? = some .none ∧ fl = .none) ∨ ∃ T oT ts, vs[1]? = some (.ref T) ∧ n ≤ T ∧ H T = none ∧ T ≠ a ∧ h.get? T = some oT ∧ oT.data = .fields ts ∧ ts[3]? = some fl
structure Err (n : Nat) (H : Hp) (h : Heap) (a : Addr) (C : Value) (dx : Option Addr) (fl : Value) : Prop where
  new : n ≤ a
  un : H a = none
  obj : ∃ oe vs, h.get? a = some oe ∧ oe.cls = C ∧ oe.dict = dx ∧ oe.data = .fields vs ∧ 1 < vs.size ∧ Head n H h a vs fl
section
variable {X : Cx} {pins : List (Addr × Obj)} {σ : St} {H : Hp} {s : Shared} {h' : Heap}
open Classical in
end
theorem Head.mono {n m : Nat} {H : Hp} {h : Heap} {a : Addr} {vs : Array Value} {fl : Value} (x : Head n H h a vs fl) (hm : m ≤ n) : Head m H h a vs fl := by
  rcases x with x | ⟨T, oT, ts, e1, nT, r⟩
  · exact .inl x
  · exact .inr ⟨T, oT, ts, e1, Nat.le_trans hm nT, r⟩
theorem Err.mono {n m : Nat} {H : Hp} {h : Heap} {a : Addr} {C : Value} {dx : Option Addr} {fl : Value} (x : Err n H h a C dx fl) (hm : m ≤ n) : Err m H h a C dx fl := by
  obtain ⟨nw, un, oe, vs, ea, ec, ed, edat, sz, hd⟩ := x
  exact ⟨Nat.le_trans hm nw, un, oe, vs, ea, ec, ed, edat, sz, hd.mono hm⟩
def CXE (P : Program) (w : World) : CXT := fun outer H s E e s' =>
  ∃ a C dx H', e = .ref a ∧ s'.os = s.os ∧ AllBare s'.gens ∧ Un (frs outer) [] H H' s.heap s'.heap ∧ HOk P w H' s'.heap ∧ Err s.heap.objs.size H' s'.heap a C dx .none ∧ E C dx H'
theorem passE0 {X : Cx} {P : Program} {w : World} : Passes (CXE P w) X E0 := fun _ _ _ _ _ _ _ h => by
  obtain ⟨_, _, _, _, _, _, _, _, _, _, q⟩ := h
  exact q.elim
section
variable {X : Cx} {E : XK}
structure Own (X : Cx) : Prop where
  stk : X.stack = X.env :: X.outer
  frm : X.env.frame = some X.env.locals
  pn : X.pn = []
end
open PySem.Builtin PySem.Builtin.ObjectAttr
section
variable {X : Cx} {pins : List (Addr × Obj)} {σ : St} {H : Hp} {s : Shared} {a : Addr} {φ : Heap → Prop}
abbrev errH (a : Addr) (C : Value) (dx : Option Addr) : HO := .ext fun h => ∃ o vs, h.get? a = some o ∧ o.cls = C ∧ o.dict = dx ∧ o.data = .fields vs
theorem Inv.held {C : Value} {dx : Option Addr} {fl : Value} (I : Inv X [] σ H s) (hp : X.pn = []) (er : Err X.s₀.heap.objs.size H s.heap a C dx fl) : Inv X [] σ (upd H a (errH a C dx)) s := by
  obtain ⟨new, un, oe, vs, ea, ec, ed, edat, sz, hd⟩ := er
  have ne : ∀ b, H b ≠ none → b ≠ a := fun b h q => by subst q; exact h un
  have keep : ∀ c u, H c = some u → upd H a (errH a C dx) c = some u := fun c u q => by
    rw [upd_ne (ne c (by rw [q]; simp))]; exact q
  have nl : X.env.locals ≠ a := fun q => by
    obtain ⟨m, ⟨o2, es, ep, e2, d2, _⟩, _⟩ := I.loc
    rw [q, ea] at e2; cases e2
    rw [edat] at d2; cases d2
  have nc : ∀ x c, X.env.cells.lookup x = some c → c ≠ a := fun x c hc q => by
    obtain ⟨v, o2, e2, d2⟩ := I.cell x c hc
    rw [q, ea] at e2; cases e2
    rw [edat] at d2; cases d2
  refine ⟨I.ok, I.os, I.bare, ⟨I.base.keep, I.base.slot, fun b o e n hx => ?_, I.base.there, fun b xs q => keep b _ (I.base.tups b xs q), fun b o u q => keep b _ (I.base.frzs b o u q), fun b ps q => ?_⟩,
    I.loc, I.cell, by rw [upd_ne nl]; exact I.free, fun x c h => by rw [upd_ne (nc x c h)]; exact I.freeC x c h, fun p hp' => ?_, fun b o e => ?_, I.len⟩
  · rw [upd_ne fun q => ?_]
    · exact I.base.free b o e n hx
    · subst q; exact absurd (Heap.lt_size e) (Nat.not_lt.mpr new)
  · obtain ⟨m, e⟩ := I.base.tbls b ps q
    exact ⟨m, keep b _ e⟩
  · rw [hp] at hp'; cases hp'
  · by_cases q : b = a
    · subst q
      rw [upd_same] at e
      cases e
      exact ⟨⟨oe, vs, ea, ec, ed, edat⟩, ⟨oe, ea⟩, fun h1 h2 ⟨o, us, z1, z2⟩ k => ⟨o, us, k _ z1, z2⟩⟩
    · rw [upd_ne q] at e
      exact (I.hok b o e).stay (fun c u _ z => z) (fun c z => keep c _ z) fun c xs z => keep c _ z
end
abbrev errN (a C : Addr) (dx : Option Addr) : HO := .ext fun h => ∃ t sl, h.get? a = some ⟨.ref C, dx, .fields #[.ref t, .none, .none, .none, .bool false, .none], sl⟩
structure ErrC (K : PySem.W.Frag) (C : Addr) (bm : List Value) : Prop where
  at_ : ∃ nm q N bs hdct sn sub ab col dd k0 k1 k2 k3 k5 newId, K.lookup C = some (excClassObj nm q C N bs bm hdct sn sub ab col dd k0 k1 k2 k3 k5 newId)
  base : bm.contains (.type "BaseException") = true
structure ErrM (K : PySem.W.Frag) (C f : Addr) (bm bmB : List Value) (B newId initId : String) : Prop where
  at_ : ∃ nm q N bs hdct sn sub ab col dd k0 k1 k2 k3 k5, K.lookup C = some (excClassObj nm q C N bs bm hdct sn sub ab col dd k0 k1 k2 k3 k5 newId)
  facts : ExcBaseFacts B newId initId bmB
  hasB : bm.contains (.type B) = true
  noA : bm.contains (.type "AttributeError") = false
  noN : bm.contains (.type "NameError") = false
  base : bm.contains (.type "BaseException") = true
  init : PySem.W.findIn K (.ref C) "__init__" = some (some (.ref f))
  fn : PySem.W.isFn K (.ref f) = true
  kp : PySem.W.keepIn K (.ref C) = true
structure ErrS (K : PySem.W.Frag) (C : Addr) (f : Str) (bm : List Value) : Prop where
  at_ : ∃ nm q N bs sn sub ab col dd k0 k1 k2 k3 k5 newId, K.lookup C = some (excClassObj nm q C N bs bm true sn sub ab col dd k0 k1 k2 k3 k5 newId)
  passes : ∀ x : Addr, refuseLoop (.ref x) "__setattr__" bm = pure ()
  obj : bm.contains (.type "object") = true
  set : PySem.W.findIn K (.ref C) "__setattr__" = some (some (.builtin "object.__setattr__"))
  none : PySem.W.findIn K (.ref C) f = some none
def Ext (H H' : Hp) : Prop := ∀ b o, H b = some o → H' b = some o
theorem Ext.rfl' {H : Hp} : Ext H H := fun _ _ h => h
theorem Ext.tr {H H1 H2 : Hp} (a : Ext H H1) (b : Ext H1 H2) : Ext H H2 := fun c o h => b c o (a c o h)
theorem ext_upd {H : Hp} {p : Addr} {o : HO} (n : H p = none) : Ext H (upd H p o) := fun b u h => by
  rw [upd_ne (ne_of_none h n)]; exact h
theorem Ext.free {H H' : Hp} (e : Ext H H') {l : Addr} (h : H' l = none) : H l = none := by
  cases q : H l with
  | none => rfl
  | some o => rw [e l o q] at h; cases h
theorem Ext.rd {H H' : Hp} {a : Addr} {u : HO} (e : Ext H H') (h : Rd H a u) : Rd H' a u := by
  rcases h with h | ⟨o, h⟩
  · exact .inl (e _ _ h)
  · exact .inr ⟨o, e _ _ h⟩
theorem Ext.seqL {K : PySem.W.Frag} {H H' : Hp} {a : Addr} {xs : List V} (e : Ext H H') (h : SqL K H a xs) : SqL K H' a xs := h.elim (fun h => .inl (e.rd h)) .inr
theorem Ext.seqT {K : PySem.W.Frag} {H H' : Hp} {a : Addr} {xs : List V} (e : Ext H H') (h : SqT K H a xs) : SqT K H' a xs := h.elim (fun h => .inl (e.rd h)) .inr
theorem up {H H' : Hp} {p : Addr} {o : HO} (e : Ext H H') (h : H p = some o) : H' p = some o := e _ _ h
def But (x : Addr) (H H' : Hp) : Prop := ∀ b o, b ≠ x → H b = some o → H' b = some o
theorem But.tr {x : Addr} {H H1 H2 : Hp} (a : But x H H1) (b : But x H1 H2) : But x H H2 := fun c o n h => b c o n (a c o n h)
theorem Ext.toBut {x : Addr} {H H1 H2 : Hp} (a : Ext H H1) (b : But x H1 H2) : But x H H2 := fun c o n h => b c o n (a c o h)
theorem But.ext {x : Addr} {H H1 H2 : Hp} (a : But x H H1) (b : Ext H1 H2) : But x H H2 := fun c o n h => b c o (a c o n h)
theorem Ext.but {x : Addr} {H H1 H2 : Hp} (a : Ext H H1) (b : But x H1 H2) (n : H x = none) : Ext H H2 := fun c o h => b c o (ne_of_none h n) (a c o h)
theorem but_upd {H : Hp} {p : Addr} {o : HO} : But p H (upd H p o) := fun b u n h => by rw [upd_ne n]; exact h
inductive Kd where | non | bl | int | str | tup | lst | dct
  deriving DecidableEq
def Kd.ty : Kd → String
  | .non => "NoneType" | .bl => "bool" | .int => "int" | .str => "str" | .tup => "tuple" | .lst => "list" | .dct => "dict"
def HasK (H : Hp) : V → Kd → Prop
  | .non, k => k = .non
  | .bl _, k => k = .bl
  | .int _, k => k = .int
  | .str _, k => k = .str
  | .ref a, k => (∃ xs, H a = some (.tup xs) ∧ k = .tup) ∨ (∃ xs, H a = some (.lst xs) ∧ k = .lst) ∨ (∃ kvs, H a = some (.dK kvs) ∧ k = .dct)
  | _, _ => False
theorem HasK.t {H : Hp} {a : Addr} {xs : List V} (h : H a = some (.tup xs)) : HasK H (.ref a) .tup := .inl ⟨xs, h, rfl⟩
theorem HasK.l {H : Hp} {a : Addr} {xs : List V} (h : H a = some (.lst xs)) : HasK H (.ref a) .lst := .inr (.inl ⟨xs, h, rfl⟩)
theorem HasK.d {H : Hp} {a : Addr} {kvs : List (Key × V)} (h : H a = some (.dK kvs)) : HasK H (.ref a) .dct := .inr (.inr ⟨kvs, h, rfl⟩)
theorem HasK.mono {H H' : Hp} {x : V} {k : Kd} (e : Ext H H') (h : HasK H x k) : HasK H' x k := by
  cases x with
  | ref a =>
    rcases h with ⟨xs, h, r⟩ | ⟨xs, h, r⟩ | ⟨xs, h, r⟩
    · exact .inl ⟨xs, e _ _ h, r⟩
    · exact .inr (.inl ⟨xs, e _ _ h, r⟩)
    · exact .inr (.inr ⟨xs, e _ _ h, r⟩)
  | _ => exact h
theorem HasK.tyOf {K : PySem.W.Frag} {H : Hp} {x : V} {k : Kd} (h : HasK H x k) : TyOf K H x (.type k.ty) := by
  cases x with
  | non => cases (show k = .non from h); exact .non
  | bl b => cases (show k = .bl from h); exact .bl b
  | int b => cases (show k = .int from h); exact .int b
  | str b => cases (show k = .str from h); exact .str b
  | ref a =>
    rcases h with ⟨xs, h, rfl⟩ | ⟨xs, h, rfl⟩ | ⟨xs, h, rfl⟩
    · exact .tup h
    · exact .lst h
    · exact .dK h
  | _ => exact (show False from h).elim
inductive D where
  | non | bl (b : Bool) | int (i : Int) | str (x : Str) | tup (l : List D) | lst (l : List D) | dct
def D.kd : D → Kd
  | .non => .non | .bl _ => .bl | .int _ => .int | .str _ => .str | .tup _ => .tup | .lst _ => .lst | .dct => .dct
mutual
def Rep (H : Hp) : D → V → Prop
  | .non, v => v = .non
  | .bl b, v => v = .bl b
  | .int i, v => v = .int i
  | .str x, v => v = .str x
  | .tup l, v => ∃ p xs, v = .ref p ∧ H p = some (.tup xs) ∧ RepL H l xs
  | .lst l, v => ∃ p xs, v = .ref p ∧ H p = some (.lst xs) ∧ RepL H l xs
  | .dct, v => ∃ p kvs, v = .ref p ∧ H p = some (.dK kvs)
def RepL (H : Hp) : List D → List V → Prop
  | [], xs => xs = []
  | d :: r, xs => ∃ x t, xs = x :: t ∧ Rep H d x ∧ RepL H r t
end
def isData : HO → Bool
  | .tup _ => true | .lst _ => true | .dK _ => true | _ => false
def Kp (H H' : Hp) : Prop := ∀ b o, H b = some o → isData o = true → H' b = some o
theorem Ext.kp {H H' : Hp} (e : Ext H H') : Kp H H' := fun b o h _ => e b o h
theorem Kp.tr {H H1 H2 : Hp} (a : Kp H H1) (b : Kp H1 H2) : Kp H H2 := fun c o h d => b c o (a c o h d) d
theorem Kp.but {H H' : Hp} {x C dx : Addr} {fs : List (Str × V)} (hx : H x = some (.ins C dx fs)) (b : But x H H') : Kp H H' := fun c o h d => b c o (fun z => by subst z; rw [hx] at h; cases h; cases d) h
mutual
theorem Rep.keep' {H H' : Hp} (e : Kp H H') : ∀ (d : D) {v : V}, Rep H d v → Rep H' d v
  | .non, _, h => by unfold Rep at h ⊢; exact h
  | .bl _, _, h => by unfold Rep at h ⊢; exact h
  | .int _, _, h => by unfold Rep at h ⊢; exact h
  | .str _, _, h => by unfold Rep at h ⊢; exact h
  | .tup l, _, h => by unfold Rep at h ⊢; obtain ⟨p, xs, h1, h2, h3⟩ := h; exact ⟨p, xs, h1, e _ _ h2 rfl, RepL.keep' e l h3⟩
  | .lst l, _, h => by unfold Rep at h ⊢; obtain ⟨p, xs, h1, h2, h3⟩ := h; exact ⟨p, xs, h1, e _ _ h2 rfl, RepL.keep' e l h3⟩
  | .dct, _, h => by unfold Rep at h ⊢; obtain ⟨p, xs, h1, h2⟩ := h; exact ⟨p, xs, h1, e _ _ h2 rfl⟩
theorem RepL.keep' {H H' : Hp} (e : Kp H H') : ∀ (l : List D) {xs : List V}, RepL H l xs → RepL H' l xs
  | [], _, h => by unfold RepL at h ⊢; exact h
  | d :: r, _, h => by unfold RepL at h ⊢; obtain ⟨x, t, h1, h2, h3⟩ := h; exact ⟨x, t, h1, Rep.keep' e d h2, RepL.keep' e r h3⟩
end
theorem Rep.keep {H H' : Hp} {d : D} {v : V} (h : Rep H d v) (e : Kp H H') : Rep H' d v := Rep.keep' e d h
theorem RepL.keep {H H' : Hp} {d : List D} {v : List V} (h : RepL H d v) (e : Kp H H') : RepL H' d v := RepL.keep' e d h
theorem Rep.mono {H H' : Hp} {d : D} {v : V} (h : Rep H d v) (e : Ext H H') : Rep H' d v := h.keep e.kp
theorem RepL.mono {H H' : Hp} {d : List D} {v : List V} (h : RepL H d v) (e : Ext H H') : RepL H' d v := h.keep e.kp
theorem RepL.length {H : Hp} : ∀ {l : List D} {xs : List V}, RepL H l xs → l.length = xs.length
  | [], _, h => by unfold RepL at h; rw [h]; rfl
  | d :: r, _, h => by unfold RepL at h; obtain ⟨x, t, rfl, _, h3⟩ := h; rw [List.length_cons, List.length_cons, RepL.length h3]
theorem RepL.get {H : Hp} : ∀ {l : List D} {xs : List V} {i : Nat} {x : V}, RepL H l xs → xs[i]? = some x → ∃ d, l[i]? = some d ∧ Rep H d x
  | [], _, i, x, h, e => by unfold RepL at h; subst h; simp at e
  | d :: r, _, 0, x, h, e => by unfold RepL at h; obtain ⟨y, t, rfl, h2, _⟩ := h; simp at e; subst e; exact ⟨d, rfl, h2⟩
  | d :: r, _, i + 1, x, h, e => by unfold RepL at h; obtain ⟨y, t, rfl, _, h3⟩ := h; obtain ⟨z, z1, z2⟩ := RepL.get (i := i) h3 (by simpa using e); exact ⟨z, by simpa using z1, z2⟩
theorem RepL.nil {H : Hp} : RepL H [] [] := by unfold RepL; rfl
theorem RepL.cons {H : Hp} {d : D} {x : V} {l : List D} {xs : List V} (h : Rep H d x) (t : RepL H l xs) : RepL H (d :: l) (x :: xs) := by unfold RepL; exact ⟨x, xs, rfl, h, t⟩
theorem Rep.intI {H : Hp} {i : Int} : Rep H (.int i) (.int i) := by unfold Rep; rfl
theorem Rep.tupI {H : Hp} {p : Addr} {xs : List V} {l : List D} (h : H p = some (.tup xs)) (r : RepL H l xs) : Rep H (.tup l) (.ref p) := by unfold Rep; exact ⟨p, xs, rfl, h, r⟩
theorem Rep.lstI {H : Hp} {p : Addr} {xs : List V} {l : List D} (h : H p = some (.lst xs)) (r : RepL H l xs) : Rep H (.lst l) (.ref p) := by unfold Rep; exact ⟨p, xs, rfl, h, r⟩
theorem RepL.ints {H : Hp} : ∀ ns : List Int, RepL H (ns.map D.int) (ns.map V.int)
  | [] => .nil
  | _ :: r => .cons .intI (RepL.ints r)
theorem Rep.kd {H : Hp} {d : D} {v : V} (h : Rep H d v) : HasK H v d.kd := by
  cases d with
  | tup l => unfold Rep at h; obtain ⟨p, xs, rfl, h, _⟩ := h; exact .t h
  | lst l => unfold Rep at h; obtain ⟨p, xs, rfl, h, _⟩ := h; exact .l h
  | dct => unfold Rep at h; obtain ⟨p, xs, rfl, h⟩ := h; exact .d h
  | _ => unfold Rep at h; subst h; exact rfl
mutual
def D.fine : D → Bool
  | .tup l => D.fineL l
  | .lst l => D.fineL l
  | .dct => false
  | _ => true
def D.fineL : List D → Bool
  | [] => true
  | d :: r => d.fine && D.fineL r
def D.depth : D → Nat
  | .tup l => D.depthL l + 1
  | .lst l => D.depthL l + 1
  | _ => 0
def D.depthL : List D → Nat
  | [] => 0
  | d :: r => max d.depth (D.depthL r)
end
theorem fineL_of : ∀ {l : List D} {i : Nat} {d : D}, D.fineL l = true → l[i]? = some d → d.fine = true
  | [], _, _, _, e => by simp at e
  | x :: r, 0, d, h, e => by simp at e; subst e; unfold D.fineL at h; exact (Bool.and_eq_true_iff.mp h).1
  | x :: r, i + 1, d, h, e => by unfold D.fineL at h; exact fineL_of (Bool.and_eq_true_iff.mp h).2 (by simpa using e)
theorem depthL_le : ∀ {l : List D} {n i : Nat} {d : D}, D.depthL l ≤ n → l[i]? = some d → d.depth ≤ n
  | [], _, _, _, _, e => by simp at e
  | x :: r, n, 0, d, h, e => by simp at e; subst e; unfold D.depthL at h; omega
  | x :: r, n, i + 1, d, h, e => by unfold D.depthL at h; exact depthL_le (l := r) (by omega) (by simpa using e)
theorem fineL_ints (ns : List Int) : D.fineL (ns.map D.int) = true := by
  induction ns with
  | nil => rfl
  | cons n r ih => show (D.fine (.int n) && D.fineL (r.map D.int)) = true; rw [ih]; rfl
theorem depthL_ints (ns : List Int) : D.depthL (ns.map D.int) = 0 := by
  induction ns with
  | nil => rfl
  | cons n r ih => show max (D.depth (.int n)) (D.depthL (r.map D.int)) = 0; rw [ih]; rfl
theorem Rep.but {H H' : Hp} {x : Addr} {C dx : Addr} {fs : List (Str × V)} (hx : H x = some (.ins C dx fs)) (b : But x H H') {d : D} {v : V} (h : Rep H d v) : Rep H' d v := h.keep (Kp.but hx b)
abbrev CXU (P : Program) (w : World) : CXT := CXE P w
theorem passU {X : Cx} {P : Program} {w : World} : Passes (CXU P w) X E0 := passE0
theorem noneU {P : Program} : ∀ (w : World) (H : Hp) (s : Shared) (e : Value) (s' : Shared), CXU P w [] H s (fun _ _ _ => False) e s' → False := fun _ _ _ _ _ h => by
  obtain ⟨_, _, _, _, _, _, _, _, _, _, q⟩ := h
  exact q
theorem FnOk.no {P : Program} {w : World} {K : PySem.W.Frag} {mg : Str → Option Value} {base : Heap} {CX : CXT} {k : Nat} {f : Addr} {fd : FuncData} {ps : List Str} : FnOk P w K mg base CX k f fd ps (fun _ _ _ _ => False) :=
  ⟨fun _ _ _ _ h => h.elim, fun _ _ _ _ _ _ _ _ _ _ _ _ _ h => h.elim⟩
section
variable {P : Program} {w : World} {K : PySem.W.Frag} {mg : Str → Option Value} {base : Heap}
theorem Fun.okU {x qual : Str} {st : Stmt} {f : Addr} {fd : FuncData} {N ps : List Str} {k : Nat} {sp : Sp} (F : Fun K x qual st f fd) (S : FnScope N ps (defScope st)) (len : ∀ vs H Q E, sp vs H Q E → vs.length = ps.length)
    (hbody : ∀ (cdv : Value) (A : Around) (outer : List Env) (s : Shared) (H : Hp) (vs : List V) (Q : VK) (E : XK), Room k (A.deeper (envOfC qual (defScope st) s.heap.objs.size f cdv)) → sp vs H Q E →
      ∃ t, PSs (cxOf (CXU P w) P w K mg base N qual (defScope st) f cdv A outer s H E).nox (defBody st) t ∧ t { nx := fun _ H' => Q .non H', rt := Q } (start N vs) H) : FnOk P w K mg base (CXU P w) (k + 1) f fd ps sp := by
  obtain ⟨oc, od, kV, doc, pm, an, cdv, ct, osl, rfl, lk, hcd⟩ := F.ex
  refine fn_of lk hcd S len fun A outer s H vs Q E hr hsp => ?_
  obtain ⟨t, h, q⟩ := hbody cdv A outer s H vs Q E hr hsp
  exact ⟨t, h.nox, q⟩
end
abbrev ib : Int → Nat := Builtin.Int.intBits
theorem bits_of_lay {ns : List Int} (h : PySem.W.WData.layableAll [.list (ns.map .int)] = true) : ∀ z ∈ ns, ib z ≤ 1048576 := fun z hz => by
  have h1 := PySem.W.layableW_arg h _ (List.mem_singleton.mpr rfl)
  have h2 := PySem.W.layableW_item h1 (.int z) (List.mem_map.mpr ⟨z, hz, rfl⟩)
  have h3 := (PySem.W.layableW_iff.mp h2).2.2
  simpa [PySem.W.WData.weight, ib, Builtin.Int.intBits] using h3
end L2
namespace L2
open PySem PySem.W PySem.Calls PyProof.Rows
theorem attach_callB {l : OpenLaw} {n : Nat} {q : Program} {loose : List Str} {XP : (Str → Option Value) → Heap → Prop} {YP : World → Heap → Prop} {d : DefRec}
    (hn : l.most = some n) (hdf : d.params.defaults = [])
    (call : ∀ (w : World) (s₀ s₁ : Shared) (mg mb : Str → Option Value) (fa : Addr) (o : Obj) (pm cd doc : Value) (a : Addr) (vs : List Value) (ns : List Int),
      Ground q loose [] XP w s₀ mg mb s₁.heap → YP w s₁.heap →
      s₁.heap.get? fa = some o → o.data = .func (docDef d.name d.params d.body d.scope pm cd doc) → s₁.heap.CodeRec cd d.name → mg d.name = some (.ref fa) →
      s₁.heap.get? a = some { cls := .type "list", data := .seq vs.toArray } → IntsAre vs ns → ns.length ≤ n → (∀ z ∈ ns, ib z ≤ 1048576) → s₁.gens = #[] →
      codeAny (model l.prog w) callerA (.call (.ref fa) ⟨[.ref a], []⟩) (fun r s' => r = .ok (.ret (.bool true)) ∧ OldK s₁.heap s'.heap ∧ s'.os = s₁.os ∧ AllBare s'.gens) s₁) :
    WalkO q loose XP YP l.row.toRowW d [] (fun f vs => PySem.call f vs) := by
  intro w s₀ s₁ mg mb G Y fa o pm cd doc dV kV ho hd hcd hD hmg hg args vals as hpre hlay hrd hwl hlo
  obtain rfl : dV = .none := Dflts.none hD hdf
  obtain rfl : kV = .none := Dflts.noKw hD
  obtain ⟨a, vs, ns, rfl, rfl, hobj, hints, hlen⟩ := Att.script_of hn hpre hwl
  refine enter_call (codeAny_mono (call w s₀ s₁ mg mb fa o pm cd doc a vs ns G Y ho (fd_plain hd) hcd hmg hobj hints hlen (bits_of_lay hlay) hg) fun r s' hq => ?_)
  obtain ⟨rfl, h2, h3, h4⟩ := hq
  exact ⟨.inl ⟨.bool true, .bool true, [], rfl, fun _ => rfl, .bool true, Att.post_true l _, fun _ => ⟨List.Pairwise.nil, fun _ hm => (nomatch hm)⟩⟩, h2, h3, h4⟩
section
variable {X : Cx}
def CMulB (i j : Int) : Prop := (-18446744073709551616 < i ∧ i < 18446744073709551616) ∨ (-18446744073709551616 < j ∧ j < 18446744073709551616) ∨ IntMulOk i j
theorem CMulB.ok {i j : Int} (h : CMulB i j) : IntMulOk i j := by
  rcases h with ⟨h1, h2⟩ | ⟨h1, h2⟩ | h
  · exact .of_left (intBits_le_64 (by omega) (by omega))
  · exact .of_right (intBits_le_64 (by omega) (by omega))
  · exact h
theorem op_mulB : OpR X (binaryOp .Mult) (rI CMulB fun i j => .int (i * j)) := opI fun _ _ _ _ _ _ _ hc q => mul_int q hc.ok
def CDivB (i j : Int) : Prop := 0 < j ∧ j < 1000000000000000000000000000000000000000000000000000000000000
theorem CDivB.no {i j : Int} (h : CDivB i j) : Builtin.divisionGoesByPylong i j = false := by
  refine PyProof.noPylong_of_log2 ?_
  have h1 := h.1
  have h2 := h.2
  have h0 : j.natAbs ≠ 0 := by omega
  refine (Nat.log2_lt h0).mpr ?_
  have e : (1000000000000000000000000000000000000000000000000000000000000 : Nat) < 2 ^ 9000 := by decide +kernel
  omega
theorem op_fdivB : OpR X (binaryOp .FloorDiv) (rI CDivB fun i j => .int (i / j)) := opI fun i j _ _ _ _ _ hc q => by
  have h1 := hc.1
  exact floordiv_int (by omega) (by rw [Int.fdiv_eq_ediv_of_nonneg i (by omega)]; exact q) (.inl hc.no)
def rIsin (K : PySem.W.Frag) : List V → Hp → VK → Prop := fun xs H Q => ∃ x t b, ((∃ n, xs = [x, .ty n] ∧ PySem.W.kitOne K t (.type n) = some b) ∨ ∃ C, xs = [x, .ref C] ∧ PySem.W.kitOne K t (.ref C) = some b) ∧ TyOf K H x t ∧ Q (.bl b) H
theorem cIsin : CallR X (.builtin "isinstance") (rIsin X.K) := by
  intro pins s σ H xs us Q I r h
  obtain ⟨x, t, b, hx, ty, q⟩ := h
  rcases hx with ⟨n, rfl, e⟩ | ⟨n, rfl, e⟩
  · obtain ⟨u, w', rfl, ru, rw'⟩ := vals2 r
    obtain rfl : w' = Value.type n := rw'
    exact isinst_ok I ru ty e fun tk => ⟨.bl b, H, I.tok _, rfl, q⟩
  · obtain ⟨u, w', rfl, ru, rw'⟩ := vals2 r
    obtain rfl : w' = Value.ref n := rw'
    exact isinst_ok I ru ty e fun tk => ⟨.bl b, H, I.tok _, rfl, q⟩
theorem kit_int {K : PySem.W.Frag} (k : Kd) : PySem.W.kitOne K (.type k.ty) (.type "int") = some (k == .int || k == .bl) := by cases k <;> rfl
theorem kit_bool {K : PySem.W.Frag} (k : Kd) : PySem.W.kitOne K (.type k.ty) (.type "bool") = some (k == .bl) := by cases k <;> rfl
theorem kit_str {K : PySem.W.Frag} (k : Kd) : PySem.W.kitOne K (.type k.ty) (.type "str") = some (k == .str) := by cases k <;> rfl
theorem kit_tuple {K : PySem.W.Frag} (k : Kd) : PySem.W.kitOne K (.type k.ty) (.type "tuple") = some (k == .tup) := by cases k <;> rfl
theorem kit_list {K : PySem.W.Frag} (k : Kd) : PySem.W.kitOne K (.type k.ty) (.type "list") = some (k == .lst) := by cases k <;> rfl
def rMin2 : List V → Hp → VK → Prop := fun xs H Q => ∃ i j, xs = [.int i, .int j] ∧ Q (.int (min i j)) H
theorem cMin2 (hc : X.calm = true) : CallR X (.builtin "min") rMin2 := by
  intro pins s σ H xs us Q I r h
  obtain ⟨i, j, rfl, q⟩ := h
  refine call_min2 hc pins s σ H _ us Q I r ⟨i, j, rfl, ?_⟩
  have e : (if j < i then j else i) = min i j := by split <;> omega
  rw [e]; exact q
def rInt1 : List V → Hp → VK → Prop := fun xs H Q => (∃ i, xs = [.int i] ∧ Q (.int i) H) ∨ ∃ k, xs = [.bl k] ∧ Q (.int (if k then 1 else 0)) H
theorem cInt1 : CallR X (.type "int") rInt1 := call_int1
def rLen (K : PySem.W.Frag) : List V → Hp → VK → Prop := fun xs H Q => ∃ x n, xs = [x] ∧ LenV K x H n ∧ Q (.int n) H
theorem cLen : CallR X (.builtin "len") (rLen X.K) := call_len
def rList (K : PySem.W.Frag) : List V → Hp → VK → Prop := fun xs H Q => ∃ p ys, xs = [.ref p] ∧ (SqL K H p ys ∨ SqT K H p ys) ∧ ∀ l, H l = none → Q (.ref l) (upd H l (.lst ys))
theorem cList : CallR X (.type "list") (rList X.K) := call_list_of
def rTuple (K : PySem.W.Frag) : List V → Hp → VK → Prop := fun xs H Q => ∃ p ys, xs = [.ref p] ∧ ((SqL K H p ys ∧ ∀ l, H l = none → Q (.ref l) (upd H l (.tup ys))) ∨ (SqT K H p ys ∧ Q (.ref p) H))
theorem cTuple : CallR X (.type "tuple") (rTuple X.K) := call_tuple_of
def rIsNo : R2 := fun x y H Q => y = .non ∧ Q (.bl (decide (x = .non))) H
def rNotNo : R2 := fun x y H Q => y = .non ∧ Q (.bl (!decide (x = .non))) H
theorem oIsN : OpR X (compareOp .Is) rIsNo := op_isN
theorem oNotN : OpR X (compareOp .IsNot) rNotNo := op_notN
theorem oIx : IxR X (rIx X.K) := ix_seq
def rSlU (K : PySem.W.Frag) : V → Option Int → Option Int → Hp → VK → Prop := fun x lo hi H Q => rSlT K x lo hi H Q ∨ rSlL K x lo hi H Q
theorem oSl : SlR X (rSlU X.K) := sl_tup.or sl_list
def tTru (K : PySem.W.Frag) (ta : TE) : TT := fun σ H Q => ta σ H fun x H' => ∃ k, TruV K x H' k ∧ Q k H'
theorem ptT {a : Expr} {ta : TE} (ha : PE X a ta) (he : ∀ whole, isTrue a X.env whole = (do let v ← whole; standAt a.pos; holding [v] (truthy v))) : PT X a (tTru X.K ta) := pt_truth ha he
structure CMeth (K : PySem.W.Frag) (C : Addr) (m : Str) (f : Addr) : Prop where
  ga : PySem.W.specialIn K (.ref C) "__getattribute__" = some (some (.builtin "type.__getattribute__"))
  rd : PySem.W.readsIn K C (.type "type") = true
  at_ : PySem.W.findCls K (.ref C) (.type "type") m = some (.val (.ref f))
  kp : PySem.W.keepIn K (.ref f) = true
def tCMeth (C : Addr) (sp : Sp) (dvs : List V) (E : XK) (ta : TE) (t : TA) : TE := fun σ H Q => ta σ H fun x H1 => x = .ref C ∧ t σ H1 fun vs H2 => sp (vs ++ dvs) H2 Q E
theorem pe_cmeth {CX : CXT} {k : Nat} {f C : Addr} {fd : FuncData} {ps : List Str} {sp : Sp} {dvs : List V} {ds : List Value} {E : XK} {m : Str} {pos apos : Pos} {e o : Expr} {es : List Expr} {ta : TE} {t : TA} {pl : Sem Bool}
    (he : PE X o ta) (hm : CMeth X.K C m f) (F : FnOk X.prog X.w X.K X.mg X.base CX k f fd ps sp) (hr : Room k X.A) (hb : Binds X.K fd ps ds) (hd : Vals dvs ds) (hx : Passes CX X E) (ha : PA X (e :: es) t)
    (hst : starEach (e :: es) X.env = (false, eval e X.env) :: starEach es X.env := by rfl) (hpl : (backTo pos (starEach es X.env)).any (·.1) = false := by rfl)
    (ht : eval (.Call (.Attribute o m apos) (e :: es) [] pos) X.env = (do
      let ov ← eval o X.env
      standAt apos.atName
      let (f, first) ← holding [ov] (getMethod ov m pl)
      callWith pos f first (backTo pos (starEach (e :: es) X.env)) (backToKw pos (keywordEach [] X.env))) := by rfl) :
    PE X (.Call (.Attribute o m apos) (e :: es) [] pos) (tCMeth C sp dvs E ta t) := by
  intro pins s σ H Q I h
  refine PySem.W.methodCall_KW (pl := pl) (thn (he pins s σ H _ I h) fun u s1 ⟨x, H1, I1, rx, ex, q⟩ => ?_) ht
  subst ex
  obtain rfl : u = Value.ref C := rx
  refine PySem.W.method_cls I1.kIn hm.ga (PySem.W.cls_value I1.kIn hm.rd hm.at_ (handed_of (v := .ref f) rfl) ?_)
  refine PySem.W.callWith_K (first := []) (h₀ := X.base) I.ok.mod.kin hm.kp (thn (ha pos pins _ σ H1 _ (I1.tok _) q) fun us s2 ⟨vs, H2, I2, r, q2⟩ => ⟨I2.kIn, ?_⟩) hst hpl
  exact run_fn (us := us) (vs := vs) F hr hb hd hx I2 r q2
end
section
variable {X : Cx} {pins : List (Addr × Obj)} {σ : St} {H : Hp} {s : Shared} {h' : Heap}
theorem Inv.turnLaid {t' : Nat} {ch : List Addr} {a : Addr} {o : HO} (I : Inv X pins σ H s) (k : ∀ b u, b ∉ ch → s.heap.get? b = some u → h'.get? b = some u) (hf : ∀ b ∈ ch, FpOk X pins H b)
    (hp : s.heap.objs.size ≤ a) (new : ObjOk X.prog X.w (upd H a o) h' a o) : Inv X pins σ (upd H a o) { s with heap := h', toks := t' } := by
  have hn : H a = none := I.hok.fresh hp
  have nit : ∀ b u, H b = some u → b ∉ ch := fun b u e z => by rw [(hf b z).1] at e; cases e
  have old : ∀ b u, H b = some u → upd H a o b = some u := fun b u e => by rw [upd_ne (ne_of_none e hn)]; exact e
  refine I.step (g' := s.gens) (d' := s.drawn) (ch := ch) (fun b hb => ?_) (fun b u _ _ hc e _ => k b u hc e) (fun b u _ _ hc e _ => ⟨u.slots, k b u hc e⟩) (fun b u _ e n => ?_)
    (fun b u hc e => ⟨u, k b u hc e⟩) (fun b xs e => old _ _ e) (fun b _ _ e => old _ _ e) (fun b ps e => ⟨#[], by rw [old _ _ e]; simp⟩) (fun m hm => ?_) (fun b u e => ?_) I.bare
  · obtain ⟨_, f1, _, f3, f4, f5⟩ := hf b hb
    exact ⟨f3, f1, f4, f5⟩
  · rw [upd_ne (fun z => by subst z; exact absurd (Heap.lt_size e) (Nat.not_lt.mpr hp))]; exact n
  · obtain ⟨ol, es, ep, ho, r⟩ := hm
    exact ⟨ol, es, ep, k _ ol (fun z => (hf _ z).2.1 rfl) ho, r⟩
  · by_cases hb : b = a
    · subst hb; rw [upd_same] at e; cases e; exact new
    · rw [upd_ne hb] at e
      refine (I.hok b u e).stay (fun c v hc q => k c v ?_ q) (fun c q => old _ _ q) fun c xs q => old _ _ q
      rcases hc with z | z
      · rw [z]; exact nit b u e
      · exact nit c _ z
theorem Inv.turns {t' : Nat} {ch : List Addr} (I : Inv X pins σ H s) (k : ∀ b u, b ∉ ch → s.heap.get? b = some u → h'.get? b = some u) (hf : ∀ b ∈ ch, FpOk X pins H b) : Inv X pins σ H { s with heap := h', toks := t' } := by
  have nit : ∀ b u, H b = some u → b ∉ ch := fun b u e z => by rw [(hf b z).1] at e; cases e
  refine I.step (g' := s.gens) (d' := s.drawn) (ch := ch) (fun b hb => ?_) (fun b u _ _ hc e _ => k b u hc e) (fun b u _ _ hc e _ => ⟨u.slots, k b u hc e⟩) (fun b u _ e n => n)
    (fun b u hc e => ⟨u, k b u hc e⟩) (fun b xs e => e) (fun b _ _ e => e) (fun b ps e => ⟨#[], by rw [e]; simp⟩) (fun m hm => ?_) (fun b u e => ?_) I.bare
  · obtain ⟨_, f1, _, f3, f4, f5⟩ := hf b hb
    exact ⟨f3, f1, f4, f5⟩
  · obtain ⟨ol, es, ep, ho, r⟩ := hm
    exact ⟨ol, es, ep, k _ ol (fun z => (hf _ z).2.1 rfl) ho, r⟩
  · refine (I.hok b u e).stay (fun c v hc q => k c v ?_ q) (fun c q => q) fun c xs q => q
    rcases hc with z | z
    · rw [z]; exact nit b u e
    · exact nit c _ z
end
section
variable {K : PySem.W.Frag} {σ : St} {H : Hp} {Q : VK} {D : Ends}
theorem r_var {i : Nat} {v : V} (h : σ[i]? = some (some v)) (q : Q v H) : tVar i σ H Q := ⟨v, h, q⟩
theorem r_c {v : V} (q : Q v H) : tC v σ H Q := q
theorem r_op {r : R2} {ta tb : TE} (q : ta σ H fun x H1 => tb σ H1 fun y H2 => r x y H2 Q) : tOp r ta tb σ H Q := q
theorem r_seq {t u : TS} (q : t { D with nx := u D } σ H) : tSeq t u D σ H := q
theorem r_asg {te : TE} {g : TG} (q : te σ H fun x H1 => g x σ H1 D.nx) : tAsg te g D σ H := q
theorem r_gname {i : Nat} {v : V} {R : St → Hp → Prop} (q : R (σ.set i (some v)) H) : gName i v σ H R := q
theorem r_if {c : TT} {t u : TS} (q : c σ H fun b H1 => if b = true then t D σ H1 else u D σ H1) : tIfS c t u D σ H := q
theorem r_test {t : TE} {R : Bool → Hp → Prop} (q : t σ H fun x H' => ∃ k, x = .bl k ∧ R k H') : tTest t σ H R := q
theorem r_bl {b : Bool} {R : Bool → Prop} (q : R b) : ∃ k, V.bl b = .bl k ∧ R k := ⟨b, rfl, q⟩
theorem r_I0 {g : Int → Int → V} {i j : Int} (q : Q (g i j) H) : rI0 g (.int i) (.int j) H Q := ⟨i, j, rfl, rfl, q⟩
theorem r_I {C : Int → Int → Prop} {g : Int → Int → V} {i j : Int} (c : C i j) (q : Q (g i j) H) : rI C g (.int i) (.int j) H Q := ⟨i, j, rfl, rfl, c, q⟩
theorem pow_ok {i : Int} {j n : Nat} {v : Int} (hi : i.natAbs < 18446744073709551616) (hj : j ≤ 1000) (e : i ^ j = v) (q : Q (.int v) H) : rI CPow (fun i j => .int (i ^ j.toNat)) (.int i) (.int (j : Int)) H Q :=
  ⟨i, j, rfl, rfl, ⟨by omega, by omega, Nat.lt_of_lt_of_le hi (by decide)⟩, by show Q (.int (i ^ (j : Int).toNat)) H; rw [Int.toNat_natCast, e]; exact q⟩
theorem r_pow18 (q : Q (.int 1000000000000000000) H) : rI CPow (fun i j => .int (i ^ j.toNat)) (.int 10) (.int 18) H Q := pow_ok (n := 0) (j := 18) (by decide) (by decide) (by decide) q
theorem r_powM (q : Q (.int 948273388530662767682822077) H) : rI CPow (fun i j => .int (i ^ j.toNat)) (.int 982451653) (.int 3) H Q := pow_ok (n := 0) (j := 3) (by decide) (by decide) (by decide) q
theorem r_eqI {i j : Int} (q : Q (.bl (decide (i = j))) H) : rEq (.int i) (.int j) H Q := ⟨rfl, by
  rw [show decide (V.int i = V.int j) = decide (i = j) from decide_eq_decide.mpr ⟨fun z => by cases z; rfl, fun z => by rw [z]⟩]; exact q⟩
theorem r_neI {i j : Int} (q : Q (.bl (!decide (i = j))) H) : rNe (.int i) (.int j) H Q := ⟨rfl, by
  rw [show decide (V.int i = V.int j) = decide (i = j) from decide_eq_decide.mpr ⟨fun z => by cases z; rfl, fun z => by rw [z]⟩]; exact q⟩
theorem r_eqB {i j : Bool} (q : Q (.bl (decide (i = j))) H) : rEq (.bl i) (.bl j) H Q := ⟨rfl, by
  rw [show decide (V.bl i = V.bl j) = decide (i = j) from decide_eq_decide.mpr ⟨fun z => by cases z; rfl, fun z => by rw [z]⟩]; exact q⟩
theorem r_eqS {i j : Str} (q : Q (.bl (decide (i = j))) H) : rEq (.str i) (.str j) H Q := ⟨rfl, by
  rw [show decide (V.str i = V.str j) = decide (i = j) from decide_eq_decide.mpr ⟨fun z => by cases z; rfl, fun z => by rw [z]⟩]; exact q⟩
theorem r_ret {te : TE} (q : te σ H D.rt) : tRet te D σ H := q
theorem r_next (q : D.nx σ H) : tNext D σ H := q
theorem r_drop {te : TE} (q : te σ H fun _ H1 => D.nx σ H1) : tDrop te D σ H := q
theorem r_not {t : TT} {R : Bool → Hp → Prop} (q : t σ H fun c H1 => R (!c) H1) : tNot t σ H R := q
theorem r_truth {te : TE} {R : Bool → Hp → Prop} (q : te σ H fun x H' => ∃ k, TruV K x H' k ∧ R k H') : tTru K te σ H R := q
theorem r_blT {b : Bool} {R : Bool → Prop} (q : R b) : ∃ k, TruV K (.bl b) H k ∧ R k := ⟨b, rfl, q⟩
theorem r_or {t u : TT} {R : Bool → Hp → Prop} (q : t σ H fun c H1 => if c = true then R true H1 else u σ H1 R) : tOr t u σ H R := q
theorem r_andV {ta tb : TE} (q : ta σ H fun x H1 => ∃ c, x = .bl c ∧ if c = true then tb σ H1 Q else Q (.bl false) H1) : tAndV ta tb σ H Q := q
theorem r_notV {ta : TE} (q : ta σ H fun x H1 => ∃ c, x = .bl c ∧ Q (.bl (!c)) H1) : tNotV ta σ H Q := q
theorem r_ifE {t : TT} {ta tb : TE} (q : t σ H fun c H1 => if c = true then ta σ H1 Q else tb σ H1 Q) : tIf t ta tb σ H Q := q
theorem r_chain {r r' : R2} {ta tb tc : TE} (q : ta σ H fun x H1 => tb σ H1 fun y H2 => r x y H2 fun z H3 => ∃ k, z = .bl k ∧ if k = true then tc σ H3 fun w H4 => r' y w H4 Q else Q (.bl false) H3) : tChain r r' ta tb tc σ H Q := q
theorem r_un {r : V → Hp → VK → Prop} {ta : TE} (q : ta σ H fun x H1 => r x H1 Q) : tUn r ta σ H Q := q
theorem r_rU {g : Int → V} {i : Int} (q : Q (g i) H) : rU g (.int i) H Q := ⟨i, rfl, q⟩
theorem r_call {sp : Sp} {dvs : List V} {E : XK} {t : TA} (q : t σ H fun vs H1 => sp (vs ++ dvs) H1 Q E) : tCall sp dvs E t σ H Q := q
theorem r_cb {r : List V → Hp → VK → Prop} {t : TA} (q : t σ H fun vs H1 => r vs H1 Q) : tCB r t σ H Q := q
theorem r_cons {ta : TE} {tr : TA} {R : List V → Hp → Prop} (q : ta σ H fun x H1 => tr σ H1 fun xs H2 => R (x :: xs) H2) : tCons ta tr σ H R := q
theorem r_nil {R : List V → Hp → Prop} (q : R [] H) : tNil σ H R := q
theorem r_meth {C : Addr} {m : Str} {sp : Sp} {dvs : List V} {E : XK} {ta : TE} {t : TA} (q : ta σ H fun x H1 => ∃ a dx fs, x = .ref a ∧ H1 a = some (.ins C dx fs) ∧ fs.lookup m = none ∧ t σ H1 fun vs H2 => sp (x :: (vs ++ dvs)) H2 Q E) : tMeth C m sp dvs E ta t σ H Q := q
theorem r_self {C : Addr} {m : Str} {sp : Sp} {dvs : List V} {E : XK} {t : TA} {a dx : Addr} {fs : List (Str × V)} (h : H a = some (.ins C dx fs)) (l : fs.lookup m = none) (q : t σ H fun vs H2 => sp (.ref a :: (vs ++ dvs)) H2 Q E) :
    ∃ b dx fs, V.ref a = .ref b ∧ H b = some (.ins C dx fs) ∧ fs.lookup m = none ∧ t σ H fun vs H2 => sp (.ref a :: (vs ++ dvs)) H2 Q E := ⟨a, dx, fs, rfl, h, l, q⟩
theorem r_cmeth {C : Addr} {sp : Sp} {dvs : List V} {E : XK} {ta : TE} {t : TA} (q : ta σ H fun x H1 => x = .ref C ∧ t σ H1 fun vs H2 => sp (vs ++ dvs) H2 Q E) : tCMeth C sp dvs E ta t σ H Q := q
theorem r_cself {C : Addr} {R : Prop} (q : R) : V.ref C = .ref C ∧ R := ⟨rfl, q⟩
theorem r_make {C : Addr} {sp : Sp} {dvs : List V} {E : XK} {t : TA} (q : t σ H fun vs H1 => ∀ x dx, H1 x = none → H1 dx = none → dx ≠ x →
  sp (.ref x :: (vs ++ dvs)) (upd (upd H1 dx (.own x)) x (.ins C dx [])) (fun v H2 => v = .non ∧ Q (.ref x) H2) E) : tMake C sp dvs E t σ H Q := q
def rFld (K : PySem.W.Frag) (f : Str) : V → Hp → VK → Prop := fun x H Q => ∃ a C dx fs v, x = .ref a ∧ H a = some (.ins C dx fs) ∧ Cls K C ∧ NoAttr K C f ∧ fs.lookup f = some v ∧ Q v H
theorem r_fldK {ta : TE} {f : Str} (q : ta σ H fun x H1 => rFld K f x H1 Q) : tFld K ta f σ H Q := q
theorem r_fat {f : Str} {a C dx : Addr} {fs : List (Str × V)} {v : V} (h : H a = some (.ins C dx fs)) (c : Cls K C) (n : NoAttr K C f) (l : fs.lookup f = some v) (q : Q v H) : rFld K f (.ref a) H Q := ⟨a, C, dx, fs, v, rfl, h, c, n, l, q⟩
def rSat (K : PySem.W.Frag) (f : Str) (y : V) : V → Hp → (Hp → Prop) → Prop := fun x H Q => ∃ a C dx fs, x = .ref a ∧ H a = some (.ins C dx fs) ∧ Cls K C ∧ NoAttr K C f ∧ fs.length < 1000 ∧ Q (upd H a (.ins C dx (putF f y fs)))
theorem r_sfld {ta tv : TE} {f : Str} (q : tv σ H fun y H1 => ta σ H1 fun x H2 => rSat K f y x H2 fun H3 => D.nx σ H3) : sFld K ta tv f D σ H := q
theorem r_sat {f : Str} {y : V} {a C dx : Addr} {fs : List (Str × V)} {R : Hp → Prop} (h : H a = some (.ins C dx fs)) (c : Cls K C) (n : NoAttr K C f) (l : fs.length < 1000) (q : ∀ H', H' a = some (.ins C dx (putF f y fs)) → But a H H' → R H') : rSat K f y (.ref a) H R :=
  ⟨a, C, dx, fs, rfl, h, c, n, l, q _ upd_same but_upd⟩
theorem lt1000 {n : Nat} (h : Nat.ble (n + 1) 1000 = true) : n < 1000 := Nat.le_of_ble_eq_true h
def rNewT (xs : List V) (H : Hp) (Q : VK) : Prop := xs.length ≤ sizeLine ∧ ∀ p, H p = none → Q (.ref p) (upd H p (.tup xs))
def rNewL (xs : List V) (H : Hp) (Q : VK) : Prop := xs.length ≤ sizeLine ∧ ∀ p, H p = none → Q (.ref p) (upd H p (.lst xs))
theorem r_tup {t : TA} (q : t σ H fun xs H1 => rNewT xs H1 Q) : tTup t σ H Q := q
theorem r_lst {t : TA} (q : t σ H fun xs H1 => rNewL xs H1 Q) : tLst t σ H Q := q
theorem r_newT {xs : List V} (c : Nat.ble xs.length 1000 = true) (q : ∀ p H', H p = none → H' p = some (.tup xs) → Ext H H' → Q (.ref p) H') : rNewT xs H Q :=
  ⟨Nat.le_trans (Nat.le_of_ble_eq_true c) (by rw [sizeLine_eq]; decide), fun p n => q p _ n upd_same (ext_upd n)⟩
theorem r_newL {xs : List V} (c : Nat.ble xs.length 1000 = true) (q : ∀ p H', H p = none → H' p = some (.lst xs) → Ext H H' → Q (.ref p) H') : rNewL xs H Q :=
  ⟨Nat.le_trans (Nat.le_of_ble_eq_true c) (by rw [sizeLine_eq]; decide), fun p n => q p _ n upd_same (ext_upd n)⟩
theorem r_dnew (q : ∀ p H', H p = none → H' p = some (.dK []) → Ext H H' → Q (.ref p) H') : tDNewK σ H Q := fun p n => q p _ n upd_same (ext_upd n)
theorem r_for {wi : TI} {g : TG} {tb : TS} (q : wi σ H fun J H1 => ∃ W : Nat → Nat → St → Hp → Prop, (∃ m, W 0 m σ H1) ∧ ∀ i m σ H, W i m σ H →
  (J.stop i H ∧ D.nx σ H) ∨ (J.go i H ∧ ∃ N : St → Hp → Prop, (∀ σ' H', N σ' H' → ∃ m', m' < m ∧ W (i + 1) m' σ' H') ∧ ∀ x H', J.yld i H x H' → g x σ H' fun σ2 H2 => tb { D with nx := N, ct := N, bk := D.nx } σ2 H2)) : tFor wi g tb D σ H := q
theorem r_rng1 {ta : TA} {R : It → Hp → Prop} (q : ta σ H fun vs H1 => ∃ j : Int, vs = [.int j] ∧ -(2 ^ 62) ≤ j ∧ j < 2 ^ 62 ∧ R (Itr 0 j.toNat) H1) : iRng1 ta σ H R := q
theorem r_ilist {tl : TE} {R : It → Hp → Prop} (q : tl σ H fun x H1 => ∃ a, x = .ref a ∧ (∃ xs, SqL K H1 a xs) ∧ R (Itl K a) H1) : iList K tl σ H R := q
theorem r_itup {tl : TE} {R : It → Hp → Prop} (q : tl σ H fun x H1 => ∃ a, x = .ref a ∧ (∃ xs, SqT K H1 a xs) ∧ R (Itt K a) H1) : iTup K tl σ H R := q
theorem r_bm {T : String} {r : V → List V → Hp → VK → Prop} {to : TE} {t : TA} (q : to σ H fun x H1 => tyV K T x H1 ∧ t σ H1 fun vs H2 => r x vs H2 Q) : tBM K T r to t σ H Q := q
theorem r_bm0 {T : String} {r : V → List V → Hp → VK → Prop} {to : TE} (q : to σ H fun x H1 => tyV K T x H1 ∧ r x [] H1 Q) : tBM0 K T r to σ H Q := q
theorem r_tyl {p : Addr} {xs : List V} {R : Prop} (h : H p = some (.lst xs)) (q : R) : tyV K "list" (.ref p) H ∧ R := ⟨.inl ⟨rfl, xs, SqL.of h⟩, q⟩
theorem r_append {p : Addr} {xs : List V} {y : V} (h : H p = some (.lst xs)) (l : xs.length < 1000000) (q : ∀ H', H' p = some (.lst (xs ++ [y])) → But p H H' → Q .non H') : rAppend (.ref p) [y] H Q :=
  ⟨p, xs, y, rfl, rfl, h, Nat.lt_of_lt_of_le l (by rw [sizeLine_eq]; decide), q _ upd_same but_upd⟩
theorem r_clear {p : Addr} {xs : List V} (h : H p = some (.lst xs)) (q : ∀ H', H' p = some (.lst []) → But p H H' → Q .non H') : rClear (.ref p) [] H Q := ⟨p, xs, rfl, rfl, h, q _ upd_same but_upd⟩
theorem r_gnil {R : St → Hp → Prop} (q : R σ H) : gNil [] σ H R := ⟨rfl, q⟩
theorem r_gcons {t : TG} {u : TGs} {v : V} {r : List V} {R : St → Hp → Prop} (q : t v σ H fun σ' H' => u r σ' H' R) : gCons t u (v :: r) σ H R := ⟨v, r, rfl, q⟩
theorem r_gtup {n : Nat} {t : TGs} {a : Addr} {xs : List V} {R : St → Hp → Prop} (h : H a = some (.tup xs)) (l : xs.length = n) (q : t xs σ H R) : gTup K n t (.ref a) σ H R := ⟨a, xs, rfl, SqT.of h, l, q⟩
theorem r_min {i j : Int} (q : Q (.int (min i j)) H) : rMin2 [.int i, .int j] H Q := ⟨i, j, rfl, q⟩
theorem r_intB {i : Bool} (q : Q (.int (if i then 1 else 0)) H) : rInt1 [.bl i] H Q := .inr ⟨i, rfl, q⟩
theorem r_isN {x : V} (q : Q (.bl (decide (x = .non))) H) : rIsNo x .non H Q := ⟨rfl, q⟩
theorem r_notN {x : V} (q : Q (.bl (!decide (x = .non))) H) : rNotNo x .non H Q := ⟨rfl, q⟩
theorem r_isI {x : V} {k : Kd} (h : HasK H x k) (q : Q (.bl (k == .int || k == .bl)) H) : rIsin K [x, .ty "int"] H Q := ⟨x, _, _, .inl ⟨_, rfl, kit_int k⟩, h.tyOf, q⟩
theorem r_isB {x : V} {k : Kd} (h : HasK H x k) (q : Q (.bl (k == .bl)) H) : rIsin K [x, .ty "bool"] H Q := ⟨x, _, _, .inl ⟨_, rfl, kit_bool k⟩, h.tyOf, q⟩
theorem r_isS {x : V} {k : Kd} (h : HasK H x k) (q : Q (.bl (k == .str)) H) : rIsin K [x, .ty "str"] H Q := ⟨x, _, _, .inl ⟨_, rfl, kit_str k⟩, h.tyOf, q⟩
theorem r_isT {x : V} {k : Kd} (h : HasK H x k) (q : Q (.bl (k == .tup)) H) : rIsin K [x, .ty "tuple"] H Q := ⟨x, _, _, .inl ⟨_, rfl, kit_tuple k⟩, h.tyOf, q⟩
theorem r_isL {x : V} {k : Kd} (h : HasK H x k) (q : Q (.bl (k == .lst)) H) : rIsin K [x, .ty "list"] H Q := ⟨x, _, _, .inl ⟨_, rfl, kit_list k⟩, h.tyOf, q⟩
theorem r_lenS {p : Addr} {xs : List V} (h : SqL K H p xs) (q : Q (.int xs.length) H) : rLen K [.ref p] H Q := ⟨_, _, rfl, .inl ⟨xs, h, rfl⟩, q⟩
theorem r_lenL {p : Addr} {xs : List V} (h : H p = some (.lst xs)) (q : Q (.int xs.length) H) : rLen K [.ref p] H Q := ⟨_, _, rfl, .inl ⟨xs, SqL.of h, rfl⟩, q⟩
theorem r_lenT {p : Addr} {xs : List V} (h : H p = some (.tup xs)) (q : Q (.int xs.length) H) : rLen K [.ref p] H Q := ⟨_, _, rfl, .inr ⟨xs, SqT.of h, rfl⟩, q⟩
theorem r_ixS {p : Addr} {xs : List V} {i : Int} {v : V} (h : SqL K H p xs) (e : atI xs i = some v) (q : Q v H) : rIx K (.ref p) (.int i) H Q := .inl ⟨p, xs, i, v, rfl, rfl, h, e, q⟩
theorem r_ixL {p : Addr} {xs : List V} {i : Int} {v : V} (h : H p = some (.lst xs)) (e : atI xs i = some v) (q : Q v H) : rIx K (.ref p) (.int i) H Q := .inl ⟨p, xs, i, v, rfl, rfl, SqL.of h, e, q⟩
theorem r_ixT {p : Addr} {xs : List V} {i : Int} {v : V} (h : H p = some (.tup xs)) (e : atI xs i = some v) (q : Q v H) : rIx K (.ref p) (.int i) H Q := .inr (.inl ⟨p, xs, i, v, rfl, rfl, SqT.of h, e, q⟩)
theorem atI_int {α : Type} {xs : List α} {i : Int} {v : α} (h0 : 0 ≤ i) (h : xs[i.toNat]? = some v) : atI xs i = some v := by
  have := atI_nat h
  rwa [Int.toNat_of_nonneg h0] at this
theorem r_listT {p : Addr} {xs : List V} (h : H p = some (.tup xs)) (q : ∀ l H', H l = none → H' l = some (.lst xs) → Ext H H' → Q (.ref l) H') : rList K [.ref p] H Q := ⟨p, xs, rfl, .inr (SqT.of h), fun l n => q l _ n upd_same (ext_upd n)⟩
theorem r_listL {p : Addr} {xs : List V} (h : H p = some (.lst xs)) (q : ∀ l H', H l = none → H' l = some (.lst xs) → Ext H H' → Q (.ref l) H') : rList K [.ref p] H Q := ⟨p, xs, rfl, .inl (SqL.of h), fun l n => q l _ n upd_same (ext_upd n)⟩
theorem r_tupleL {p : Addr} {xs : List V} (h : H p = some (.lst xs)) (q : ∀ l H', H l = none → H' l = some (.tup xs) → Ext H H' → Q (.ref l) H') : rTuple K [.ref p] H Q := ⟨p, xs, rfl, .inl ⟨SqL.of h, fun l n => q l _ n upd_same (ext_upd n)⟩⟩
end
theorem iteD {c A B : Prop} [Decidable c] (h1 : c → A) (h2 : ¬ c → B) : if decide c = true then A else B := by
  by_cases h : c
  · rw [decide_eq_true h]; exact iteT (h1 h)
  · rw [decide_eq_false h]; exact iteF (h2 h)
theorem iteN {c A B : Prop} [Decidable c] (h1 : ¬ c → A) (h2 : c → B) : if (!decide c) = true then A else B := by
  by_cases h : c
  · rw [decide_eq_true h]; exact iteF (h2 h)
  · rw [decide_eq_false h]; exact iteT (h1 h)
theorem mulM {c n : Int} (hb : ib c ≤ 1048577) (n0 : 0 ≤ n) (n1 : n < 2147483629) : CMulB (c + n) 948273388530662767682822077 := by
  refine .inr (.inr ?_)
  have h1 : ib n ≤ 31 := intBits_le (by omega)
  have h2 : ib (c + n) ≤ 1048578 := by
    exact Nat.le_trans (PySem.intBits_add_le hb h1) (by decide)
  have h3 : ib 948273388530662767682822077 ≤ 100 := intBits_le (by decide)
  unfold IntMulOk
  have h : Builtin.Int.intTooBig (Builtin.Int.intBits (c + n) + Builtin.Int.intBits 948273388530662767682822077) = false := by
    unfold Builtin.Int.intTooBig bitsLine
    have h4 : Builtin.Int.intBits (c + n) ≤ 1048578 := h2
    have h5 : Builtin.Int.intBits 948273388530662767682822077 ≤ 100 := h3
    exact decide_eq_false (by omega)
  rw [h]
  simp
abbrev NoX : Value → Shared → Prop := fun _ _ => False
def tTests : List TT → TT
  | [] => fun _ H Q => Q true H
  | t :: r => fun σ H Q => t σ H fun b H1 => if b = true then tTests r σ H1 Q else Q false H1
def PTs (X : Cx) : List Expr → List TT → Prop
  | [], [] => True
  | e :: es, t :: ts => PT X e t ∧ PTs X es ts
  | _, _ => False
def testsRun (env : Env) (ifs : List Expr) (b : Bool) : Sem Bool := forIn ifs b fun c r => if r = true then do let ok ← isTrue c env (eval c env); pure (ForInStep.yield ok) else pure (ForInStep.yield r)
theorem tests_off {M : Model} {A : Around} {E : Value → Shared → Prop} {s : Shared} {env : Env} {Q : Bool → Shared → Prop} (h : Q false s) : ∀ ifs : List Expr, wpAny M A (testsRun env ifs false) Q E s
  | [] => wpAny_pure h
  | c :: r => by
    unfold testsRun
    rw [List.forIn_cons]
    simp only [Bool.false_eq_true, if_false]
    exact wpAny_bind (wpAny_pure (tests_off h r))
theorem tests_ok {X : Cx} {pins : List (Addr × Obj)} {σ : St} {Q : Bool → Hp → Prop} : ∀ (ifs : List Expr) (ts : List TT) (s : Shared) (H : Hp), PTs X ifs ts → Inv X pins σ H s → tTests ts σ H Q → wpAny (model X.prog X.w) X.A (testsRun X.env ifs true) (TP X pins σ Q) X.xe s
  | [], [], s, H, _, I, h => wpAny_pure ⟨H, I, h⟩
  | [], _ :: _, _, _, p, _, _ => p.elim
  | _ :: _, [], _, _, p, _, _ => p.elim
  | c :: r, t :: ts, s, H, p, I, h => by
    unfold testsRun
    rw [List.forIn_cons]
    simp only [if_true]
    refine wpAny_bind (wpAny_bind (thn (p.1 pins s σ H _ I h) fun b s1 ⟨H1, I1, q1⟩ => wpAny_pure ?_))
    cases b with
    | true => exact tests_ok r ts s1 H1 p.2 I1 (by simpa using q1)
    | false => exact tests_off ⟨H1, I1, by simpa using q1⟩ r
section
variable {prog : Program} {w : World} {A : Around} {R : Result → Shared → Prop}
theorem comp_loop {elt tg iter : Expr} {ifs : List Expr} {scope : Scope} {pos : Pos} {it acc : Value} {env : Env} (J : Nat → Shared → Prop)
    (turn : ∀ n s, J n s → wpAny (model prog w) A (pyNext it) (fun r s1 => match r with
      | none => R (.ok .next) s1
      | some v => wpAny (model prog w) A (letOwnedTupleGo tg it v) (fun _ s2 => wpAny (model prog w) A (assign tg env v) (fun _ s3 => wpAny (model prog w) A (testsRun env ifs true) (fun ok s4 =>
          if ok = true then wpAny (model prog w) A (eval elt env) (fun x s5 => wpAny (model prog w) A (call (.builtin "list.append") [acc, x]) (fun _ s6 => ∃ m, m < n ∧ J m s6) NoX s5) NoX s4
          else ∃ m, m < n ∧ J m s4) NoX s3) NoX s2) NoX s1) NoX s) (n : Nat) {s : Shared} (h : J n s) :
    codeAny (model prog w) A (.compLoop (.ListComp elt [⟨tg, iter, ifs, 0⟩] scope pos) 0 it acc env) R s := by
  refine codeAny_loop rfl J (fun n s hJ => ?_) n h
  show wpAny _ A ((compTurn (.ListComp elt [⟨tg, iter, ifs, 0⟩] scope pos) 0 it acc env).onRaise _) _ _ s
  refine wpAny_noted ?_
  have nx : ∀ {E : Value → Shared → Prop} (e : Value) (s : Shared), NoX e s → E e s := fun _ _ f => f.elim
  rw [compTurn_list]
  refine wpAny_bind (wpAny_standAt (wpAny_bind (wpAny_mono (turn n s hJ) (fun r s1 q1 => ?_) nx)))
  cases r with
  | none => exact wpAny_pure q1
  | some v =>
    refine wpAny_bind (wpAny_mono q1 (fun _ s2 q2 => ?_) nx)
    refine wpAny_bind (wpAny_mono q2 (fun _ s3 q3 => ?_) nx)
    refine wpAny_bind (wpAny_mono (show wpAny _ _ (testsRun env ifs true) _ _ _ from q3) (fun ok s4 q4 => ?_) nx)
    cases ok with
    | false => exact wpAny_pure ⟨rfl, q4⟩
    | true =>
      refine wpAny_bind (wpAny_bind (wpAny_mono q4 (fun x s5 q5 => ?_) nx))
      exact wpAny_bind (wpAny_mono q5 (fun _ s6 q6 => wpAny_pure (wpAny_pure ⟨rfl, q6⟩)) nx)
end
def closOf (cells : List (Str × Addr)) : List (Str × NameKind) → List (Str × Addr) → Option (List (Str × Addr))
  | [], cs => some cs
  | (n, k) :: r, cs => if (k == .free) = true then (match cells.lookup n with | some a => closOf cells r ((n, a) :: cs) | none => none) else closOf cells r cs
theorem clos_run {env : Env} : ∀ (names : List (Str × NameKind)) (cs cl : List (Str × Addr)), closOf env.cells names cs = some cl →
    (forIn names cs fun x r => match x with | (name, kind) => if (kind == .free) = true then do let a ← cellOf env name; pure (ForInStep.yield ((name, a) :: r)) else pure (ForInStep.yield r) : Sem (List (Str × Addr))) = pure cl
  | [], cs, cl, h => by
    cases h
    rfl
  | (n, k) :: r, cs, cl, h => by
    rw [List.forIn_cons]
    unfold closOf at h
    by_cases hk : (k == NameKind.free) = true
    · rw [if_pos hk] at h
      dsimp only
      rw [if_pos hk]
      unfold cellOf
      cases e : env.cells.lookup n with
      | none => rw [e] at h; cases h
      | some a =>
        rw [e] at h
        exact clos_run r _ cl h
    · rw [if_neg hk] at h
      dsimp only
      rw [if_neg hk]
      exact clos_run r cs cl h
theorem closureFor_of {scope : Scope} {env : Env} {cl : List (Str × Addr)} (h : closOf env.cells scope.names [] = some cl) : closureFor scope env = pure cl := by
  have e : closureFor scope env = ((forIn scope.names ([] : List (Str × Addr)) fun x r => match x with | (name, kind) => if (kind == .free) = true then do let a ← cellOf env name; pure (ForInStep.yield ((name, a) :: r)) else pure (ForInStep.yield r) : Sem (List (Str × Addr))) >>= fun cs => pure cs) := by
    first | rfl | (unfold closureFor; rfl)
  rw [e, clos_run _ _ _ h]
  rfl
theorem clos_sub {cells : List (Str × Addr)} : ∀ (names : List (Str × NameKind)) (cs cl : List (Str × Addr)), closOf cells names cs = some cl → (∀ x c, cs.lookup x = some c → cells.lookup x = some c) → ∀ x c, cl.lookup x = some c → cells.lookup x = some c
  | [], cs, cl, h, p => by cases h; exact p
  | (n, k) :: r, cs, cl, h, p => by
    unfold closOf at h
    split at h
    · split at h
      · rename_i a e
        refine clos_sub r _ cl h fun x c q => ?_
        rw [List.lookup_cons] at q
        by_cases hx : (x == n) = true
        · rw [hx] at q
          have : x = n := by simpa using hx
          subst this
          cases q
          exact e
        · have hx' : (x == n) = false := by simpa using hx
          rw [hx'] at q
          exact p x c q
      · cases h
    · exact clos_sub r cs cl h p
theorem clos_has {cells : List (Str × Addr)} : ∀ (names : List (Str × NameKind)) (cs cl : List (Str × Addr)), closOf cells names cs = some cl → ∀ x, ((∃ c, cs.lookup x = some c) ∨ (x, NameKind.free) ∈ names) → ∃ c, cl.lookup x = some c
  | [], cs, cl, h, x, p => by
    cases h
    rcases p with p | p
    · exact p
    · simp at p
  | (n, k) :: r, cs, cl, h, x, p => by
    unfold closOf at h
    split at h
    · split at h
      · rename_i a e
        refine clos_has r _ cl h x ?_
        by_cases hx : x = n
        · exact .inl ⟨a, by rw [List.lookup_cons, hx]; simp⟩
        · have hx' : (x == n) = false := by simpa using hx
          rcases p with ⟨c, p⟩ | p
          · exact .inl ⟨c, by rw [List.lookup_cons, hx']; exact p⟩
          · rcases List.mem_cons.mp p with q | q
            · cases q; exact absurd rfl hx
            · exact .inr q
      · cases h
    · rename_i hk
      refine clos_has r _ cl h x ?_
      rcases p with p | p
      · exact .inl p
      · rcases List.mem_cons.mp p with q | q
        · cases q; exact absurd rfl hk
        · exact .inr q
theorem relabel_mem {scope : Scope} {env : Env} (hc : ∀ y ∈ scope.names, y.2 ≠ .cell) {x : Str} (h : (relabel scope env).names.lookup x = some .cell ∨ (relabel scope env).names.lookup x = some .free) : (x, NameKind.free) ∈ scope.names := by
  have key : ∀ k, (k = .cell ∨ k = .free) → (relabel scope env).names.lookup x = some k → (x, NameKind.free) ∈ scope.names := fun k hk e => by
    have m := PySem.mem_of_lookup e
    obtain ⟨⟨n, k'⟩, hm, e2⟩ := List.mem_map.mp m
    dsimp only at e2
    split at e2
    · rename_i q
      cases e2
      have : k' = .free := by
        have := (Bool.and_eq_true_iff.mp (Bool.and_eq_true_iff.mp q).1).1
        simpa using this
      subst this
      exact hm
    · cases e2
      rcases hk with rfl | rfl
      · exact absurd rfl (hc _ hm)
      · exact hm
  exact h.elim (key _ (.inl rfl)) (key _ (.inr rfl))
def cxComp (X : Cx) (pins : List (Addr × Obj)) (N : List Str) (scope : Scope) (cl : List (Str × Addr)) (fp : List Addr) (s : Shared) (H : Hp) : Cx where
  prog := X.prog
  w := X.w
  K := X.K
  mg := X.mg
  base := X.base
  A := X.A
  N := N
  s₀ := s
  H₀ := H
  env := compEnvC scope cl s.heap.objs.size X.env
  outer := X.stack
  stack := X.stack
  ex := fp
  fn := fun _ => false
  calm := X.calm
  pn := X.pn ++ pins
  xe := NoX
def Frees (X : Cx) (sc : Scope) : List Str → List Nat → Prop
  | [], [] => True
  | y :: ys, j :: js => (X.N[j]? = some y ∧ (X.env.kindOf y = some .cell ∨ X.env.kindOf y = some .free) ∧ (sc.names.lookup y = some .cell ∨ sc.names.lookup y = some .free)) ∧ Frees X sc ys js
  | _, _ => False
theorem Frees.get {X : Cx} {sc : Scope} : ∀ {ys : List Str} {js : List Nat} {i : Nat} {y : Str}, Frees X sc ys js → ys[i]? = some y → ∃ j, js[i]? = some j ∧ X.N[j]? = some y ∧ (X.env.kindOf y = some .cell ∨ X.env.kindOf y = some .free) ∧ (sc.names.lookup y = some .cell ∨ sc.names.lookup y = some .free)
  | [], _, _, _, _, e => by simp at e
  | _ :: _, [], _, _, h, _ => h.elim
  | y :: ys, j :: js, 0, z, h, e => by
    simp at e
    subst e
    exact ⟨j, rfl, h.1⟩
  | y :: ys, j :: js, i + 1, z, h, e => Frees.get (ys := ys) (js := js) (i := i) h.2 (by simpa using e)
theorem Frees.len {X : Cx} {sc : Scope} : ∀ {ys : List Str} {js : List Nat}, Frees X sc ys js → ys.length = js.length
  | [], [], _ => rfl
  | [], _ :: _, h => h.elim
  | _ :: _, [], h => h.elim
  | _ :: ys, _ :: js, h => by rw [List.length_cons, List.length_cons, Frees.len h.2]
def slotAt (σ : St) (j : Nat) : Option V := match σ[j]? with | some o => o | none => none
def cSt (own : List Str) (js : List Nat) (σ : St) : St := own.map (fun _ => none) ++ js.map (slotAt σ)
section
variable {X : Cx} {pins : List (Addr × Obj)} {σ : St} {H : Hp} {s : Shared}
theorem comp_start {own fr : List Str} {js : List Nat} {scope : Scope} {cl : List (Str × Addr)} {fp : List Addr} {h' : Heap} {tk : Nat} (I : Inv X pins σ H s) (hkind : scope.kind = .function) (hc : ∀ y ∈ scope.names, y.2 ≠ .cell)
    (hcl : closOf X.env.cells scope.names [] = some cl) (hF : Frees X (relabel scope X.env) fr js) (hfp : ∀ b ∈ fp, FpOk X pins H b) (hlt : ∀ b ∈ fp, b < s.heap.objs.size)
    (hn : h'.Ns s.heap.objs.size (fun _ => none)) (hk : ∀ b o, s.heap.get? b = some o → h'.get? b = some o) :
    Inv (cxComp X pins (own ++ fr) scope cl fp s H) [] (cSt own js σ) H { s with heap := h', toks := tk } := by
  have sub := clos_sub _ _ _ hcl (fun _ _ q => by simp at q)
  have clt : ∀ x c, X.env.cells.lookup x = some c → c < s.heap.objs.size := fun x c e => by obtain ⟨v, q⟩ := I.cell x c e; exact q.lt
  refine ⟨⟨I.ok.mod, hkind, I.ok.glob, I.ok.blt, Nat.le_refl _, fun x y c e1 e2 => I.ok.inj x y c (sub _ _ e1) (sub _ _ e2), fun x hx => ?_, (fun x c q => Bool.noConfusion (show false = true from q)), I.ok.hd, I.ok.frames, .inl rfl, fun b hb => ⟨Nat.ne_of_lt (hlt b hb), fun x c e => (hfp b hb).2.2.2.2.1 x c (sub x c e)⟩,
    I.bs, Nat.le_trans I.ok.bsz I.sz, fun b o e hb => ?_, fun b hb hq => ?_, I.stack, I.stkFree⟩, rfl, I.bare, Un.kept hk, ⟨_, hn, fun i x v e1 e2 e3 => ?_⟩, fun x c e => ?_, I.hok.fresh (Nat.le_refl _), fun x c e => I.freeC x c (sub x c e), fun p hp => ?_, I.hok.kept hk, ?_⟩
  · exact clos_has _ _ _ hcl x (.inr (relabel_mem hc hx))
  · rcases (hfp b hb).2.2.2.1 with q | q
    · exact I.ok.noex b o e q
    · exact absurd (Heap.lt_size (I.ok.bs b o e).1) (Nat.not_lt.mpr q)
  · have := I.stkSub b hq
    rcases List.mem_cons.mp this with z | z
    · exact (hfp b hb).2.1 z
    · exact (hfp b hb).2.2.1 z
  · have hi : own.length ≤ i := by
      refine Nat.le_of_not_lt fun q => ?_
      unfold cSt at e2
      rw [List.getElem?_append_left (by simpa using q), List.getElem?_map] at e2
      cases z : own[i]? with
      | none => rw [z] at e2; cases e2
      | some y => rw [z] at e2; cases e2
    have e1' : fr[i - own.length]? = some x := by
      have : (own ++ fr)[i]? = some x := e1
      rwa [List.getElem?_append_right hi] at this
    obtain ⟨j, hj, nj, kj, lj⟩ := hF.get e1'
    have e2' : slotAt σ j = some v := by
      unfold cSt at e2
      rw [List.getElem?_append_right (by simpa using hi), List.length_map, List.getElem?_map, hj] at e2
      exact Option.some.inj e2
    have e4 : σ[j]? = some (some v) := by
      unfold slotAt at e2'
      split at e2'
      · rename_i o q; rw [q, e2']
      · cases e2'
    obtain ⟨m, hm, hl⟩ := I.loc
    obtain ⟨u, ru, lk⟩ := hl j x v nj e4 (kj.elim (fun q => .inr (.inl q)) fun q => .inr (.inr q))
    refine ⟨u, ru, .inr ⟨lj, ?_⟩⟩
    rcases lk with ⟨q, _⟩ | ⟨_, c, ec, ic⟩
    · rcases kj with k | k <;> (rw [q] at k; cases k)
    · obtain ⟨c', ec'⟩ := clos_has _ _ _ hcl x (.inr (relabel_mem hc lj))
      have := sub _ _ ec'
      rw [ec] at this
      cases this
      exact ⟨c, ec', ic.keeps hk⟩
  · obtain ⟨v, q⟩ := I.cell x c (sub x c e)
    exact ⟨v, q.keeps hk⟩
  · have hp' : p ∈ X.pn ++ pins := by
      rcases List.mem_append.mp hp with q | q
      · exact q
      · simp at q
    obtain ⟨q1, q2, q3, q4, q5⟩ := I.pin p hp'
    refine ⟨hk _ _ q1, q2, Nat.ne_of_lt (Heap.lt_size q1), fun z => ?_, q5⟩
    rcases List.mem_cons.mp (I.stkSub _ z) with y | y
    · exact q3 y
    · exact q4 y
  · show (cSt own js σ).length = (own ++ fr).length
    unfold cSt
    rw [List.length_append, List.length_append, List.length_map, List.length_map, hF.len]
theorem comp_back {N : List Str} {scope : Scope} {cl : List (Str × Addr)} {fp : List Addr} {σ' : St} {H' : Hp} {s' : Shared} {ps : List (Addr × Obj)} (I : Inv X pins σ H s) (hfp : ∀ b ∈ fp, FpOk X pins H b)
    (J : Inv (cxComp X pins N scope cl fp s H) ps σ' H' s') : Inv X pins σ H' s' := by
  refine I.call' (ch := fp) J.os J.base J.hok J.bare fun b hb => ?_
  obtain ⟨_, f1, _, f3, f4, f5⟩ := hfp b hb
  exact ⟨f3, f1, f4, f5⟩
end
def accO (a : Addr) (ys : List V) : HO := .ext fun h => ys.length ≤ sizeLine ∧ ∃ (its : List Value) (n : Nat), Vals ys its ∧ h.get? a = some { cls := .type "list", data := .seq its.toArray n }
theorem acc_of {P : Program} {w : World} {H : Hp} {h : Heap} {a : Addr} {ys : List V} (o : ObjOk P w H h a (.lst ys)) : ObjOk P w H h a (accO a ys) := by
  obtain ⟨z, its, n, r, e⟩ := o
  exact ⟨⟨z, its, n, r, e⟩, ⟨_, e⟩, fun h1 h2 ⟨z, its, n, r, e⟩ k => ⟨z, its, n, r, k _ e⟩⟩
theorem of_acc {P : Program} {w : World} {H : Hp} {h : Heap} {a : Addr} {ys : List V} (o : ObjOk P w H h a (accO a ys)) : ObjOk P w H h a (.lst ys) := by
  obtain ⟨⟨z, its, n, r, e⟩, _⟩ := o
  exact ⟨z, its, n, r, e⟩
def plainO : HO → Bool
  | .lst _ => true | .ext _ => true | _ => false
theorem Inv.retrack {X : Cx} {pins : List (Addr × Obj)} {σ : St} {H : Hp} {s : Shared} {a : Addr} {o o' : HO} (I : Inv X pins σ H s) (h : H a = some o) (hp : plainO o = true) (new : ∀ H', ObjOk X.prog X.w H' s.heap a o') : Inv X pins σ (upd H a o') s := by
  have ne : ∀ {b : Addr} {u : HO}, H b = some u → plainO u = false → b ≠ a := fun hb hu z => by subst z; rw [h] at hb; cases hb; rw [hp] at hu; cases hu
  have I' := I.un (h' := s.heap) (t' := s.toks) (H' := upd H a o') ⟨fun _ _ e _ _ _ => e, fun b u e _ _ _ => ⟨u.slots, e⟩, fun b u _ n _ => by rw [upd_ne (fun z => by subst z; rw [h] at n; cases n)]; exact n, fun b u e _ => ⟨u, e⟩,
    fun b xs e => by rw [upd_ne (ne e rfl)]; exact e, fun b ob u e => by rw [upd_ne (ne e rfl)]; exact e, fun b ps e => ⟨#[], by rw [upd_ne (ne e rfl), e]; simp⟩⟩ (fun b u e => by
      by_cases hb : b = a
      · subst hb; rw [upd_same] at e; cases e; exact new _
      · rw [upd_ne hb] at e
        exact (I.hok b u e).stay (fun _ _ _ q => q) (fun c q => by rw [upd_ne (ne q rfl)]; exact q) fun c xs q => by rw [upd_ne (ne q rfl)]; exact q)
  exact I'
theorem kp_upd {H : Hp} {a : Addr} {o o' : HO} (h : H a = some o) (hd : isData o = false) : Kp H (upd H a o') := fun b u e d => by
  rw [upd_ne (fun z => by subst z; rw [h] at e; cases e; rw [hd] at d; cases d)]; exact e
def rComp (J : It) (g : TG) (ts : List TT) (te : TE) (acc : Addr) (σ0 : St) (H0 : Hp) (Q : Hp → Prop) : Prop :=
  ∃ W : Nat → Nat → St → List V → Hp → Prop, (∃ m, W 0 m σ0 [] (upd H0 acc (accO acc []))) ∧ ∀ i m σ ys H, W i m σ ys H → H acc = some (accO acc ys) →
    (J.stop i H ∧ Q (upd H acc (.lst ys))) ∨ (J.go i H ∧ ∀ x H', J.yld i H x H' → g x σ H' fun σ2 H2 => tTests ts σ2 H2 fun b H3 =>
      if b = true then te σ2 H3 fun y H4 => H4 acc = some (accO acc ys) ∧ ys.length < sizeLine ∧ ∃ m', m' < m ∧ W (i + 1) m' σ2 (ys ++ [y]) (upd H4 acc (accO acc (ys ++ [y])))
      else H3 acc = some (accO acc ys) ∧ ∃ m', m' < m ∧ W (i + 1) m' σ2 ys H3)
abbrev CA (α : Type) := List (Addr × Obj) → List Addr → Shared → Hp → α
def tComp (wi : TI) (own : List Str) (js : List Nat) (g : CA TG) (ts : CA (List TT)) (te : CA TE) : TE := fun σ H Q => wi σ H fun J H1 => ∀ acc, H1 acc = none → ∀ pins fp s Hc, rComp J (g pins fp s Hc) (ts pins fp s Hc) (te pins fp s Hc) acc (cSt own js σ) H1 fun H' => Q (.ref acc) H'
structure CompOk (X : Cx) (scope : Scope) (cl : List (Str × Addr)) (own fr : List Str) (js : List Nat) : Prop where
  kind : scope.kind = .function
  nc : ∀ y ∈ scope.names, y.2 ≠ .cell
  nl : ∀ y ∈ scope.names, y.2 = .local → scope.names.lookup y.1 = some .local
  clos : closOf X.env.cells scope.names [] = some cl
  frees : Frees X (relabel scope X.env) fr js
section
variable {X : Cx} {pins : List (Addr × Obj)} {σ : St} {H : Hp} {s : Shared}
theorem comp_core {elt tg iter : Expr} {ifs : List Expr} {scope : Scope} {pos : Pos} {cl : List (Str × Addr)} {own fr : List Str} {js : List Nat} {g : CA TG} {ts : CA (List TT)} {te : CA TE} {R : Hp → Addr → Prop} {RR : Value → Addr → Result → Shared → Prop} {it : Addr} {fp : List Addr} {tn : Nat → Heap → Prop} {J : It} {E : Value → Shared → Prop}
    (O : CompOk X scope cl own fr js) (hcalm : X.calm = true)
    (hb : ∀ pins fp s Hc, PG (cxComp X pins (own ++ fr) scope cl fp s Hc) tg (g pins fp s Hc) ∧ PTs (cxComp X pins (own ++ fr) scope cl fp s Hc) ifs (ts pins fp s Hc) ∧ PE (cxComp X pins (own ++ fr) scope cl fp s Hc) elt (te pins fp s Hc))
    (I : Inv X pins σ H s) (T : Turn X.prog X.w X.K tg J fp it tn) (t0 : tn 0 s.heap) (hf : ∀ b ∈ fp, FpOk X pins H b)
    (h : ∀ acc, H acc = none → ∀ pins fp s Hc, rComp J (g pins fp s Hc) (ts pins fp s Hc) (te pins fp s Hc) acc (cSt own js σ) H fun H' => R H' acc)
    (fin : ∀ acc C H' s' m, Inv X pins σ H' s' → R H' acc → s'.heap.Ns C m → FpOk X pins H' C → RR (.ref acc) C (.ok .next) s') :
    wpAny (model X.prog X.w) X.A (newList []) (fun acc s3 => wpAny (model X.prog X.w) X.A (newFunctionEnv scope X.env.globals cl [] X.env.qual none .none (some X.env)) (fun cenv s4 =>
      codeAny (model X.prog X.w) X.A (.compStart (.ListComp elt [⟨tg, iter, ifs, 0⟩] scope pos) 0 (.ref it) acc { cenv with scope := relabel scope X.env }) (RR acc cenv.locals) s4) E s3) E s := by
  have n0 : H s.heap.objs.size = none := I.hok.fresh (Nat.le_refl _)
  have flt : ∀ b ∈ fp, b < s.heap.objs.size := fun b hb => by obtain ⟨o, e, _⟩ := T.obj 0 _ t0 b hb; exact Heap.lt_size e
  refine wpAny_newList ?_
  have I3 : Inv X pins σ (upd H s.heap.objs.size (accO s.heap.objs.size [])) { s with heap := s.heap.push { cls := .type "list", data := .seq ([] : List Value).toArray } } :=
    I.laid (t' := s.toks) (fun b o e => Heap.get?_push_of_some _ e) (Nat.le_refl _) (acc_of (show ObjOk X.prog X.w _ _ _ (.lst []) from ⟨Nat.zero_le _, [], 0, .nil, Heap.get?_push_size _ rfl⟩))
  have hf3 : ∀ b ∈ fp, FpOk X pins (upd H s.heap.objs.size (accO s.heap.objs.size [])) b := fun b hb => ⟨by rw [upd_ne (Nat.ne_of_lt (flt b hb))]; exact (hf b hb).1, (hf b hb).2⟩
  have t3 : tn 0 (s.heap.push { cls := .type "list", data := .seq ([] : List Value).toArray }) := T.keep _ _ _ t0 fun b _ o e => Heap.get?_push_of_some _ e
  specialize h s.heap.objs.size n0
  generalize hs3 : ({ s with heap := s.heap.push { cls := .type "list", data := .seq ([] : List Value).toArray } } : Shared) = s3 at I3 ⊢
  have t3' : tn 0 s3.heap := by rw [← hs3]; exact t3
  have lt3 : ∀ b ∈ fp, b < s3.heap.objs.size := fun b hb => by rw [← hs3]; exact Nat.lt_of_lt_of_le (flt b hb) (by rw [Heap.size_push]; exact Nat.le_succ _)
  generalize hH3 : upd H s.heap.objs.size (accO s.heap.objs.size []) = H3 at I3 hf3
  generalize hacc : s.heap.objs.size = acc at *
  refine wpAny_newFunctionEnv O.nc (by intro x hx; simp at hx) (fun h1 hns hsb => ?_) O.kind
  have hk : ∀ b o, s3.heap.get? b = some o → h1.get? b = some o := fun b o e => (hsb.2 b (Nat.ne_of_lt (Heap.lt_size e))).trans (Heap.get?_push_of_some _ e)
  have Ic : Inv (cxComp X pins (own ++ fr) scope cl fp s3 H3) [] (cSt own js σ) H3 { s3 with heap := h1, toks := s3.toks + 0 } := comp_start I3 O.kind O.nc O.clos O.frees hf3 lt3 hns hk
  obtain ⟨W, ⟨m0, w0⟩, turn⟩ := h pins fp s3 H3
  obtain ⟨hg, ht, he⟩ := hb pins fp s3 H3
  have stat : ∀ {H' : Hp} {ps : List (Addr × Obj)}, ps = [] → (∀ b ∈ fp, H' b = none) → ∀ b ∈ fp, FpOk (cxComp X pins (own ++ fr) scope cl fp s3 H3) ps H' b := fun {H' ps} hps hn b hb => by
    obtain ⟨f0, f1, f2, f3, f4, f5⟩ := hf3 b hb
    refine ⟨hn b hb, Nat.ne_of_lt (lt3 b hb), fun z => ?_, .inl hb, fun x c e => f4 x c (clos_sub _ _ _ O.clos (fun _ _ q => by simp at q) x c e), fun p hp => ?_⟩
    · rcases List.mem_cons.mp (I3.stkSub b z) with q | q
      · exact f1 q
      · exact f2 q
    · subst hps
      rcases List.mem_append.mp hp with q | q
      · exact f5 p q
      · simp at q
  have loop : ∀ {sx : Shared}, Inv (cxComp X pins (own ++ fr) scope cl fp s3 H3) [] (cSt own js σ) H3 sx → tn 0 sx.heap →
      codeAny (model X.prog X.w) X.A (.compLoop (.ListComp elt [⟨tg, iter, ifs, 0⟩] scope pos) 0 (.ref it) (.ref acc) (compEnvC scope cl s3.heap.objs.size X.env)) (RR (.ref acc) s3.heap.objs.size) sx := fun {sx} Jx tx => by
    refine comp_loop (fun n s' => ∃ i σc ys H', Inv (cxComp X pins (own ++ fr) scope cl fp s3 H3) [] σc H' s' ∧ tn i s'.heap ∧ (∀ b ∈ fp, H' b = none) ∧ H' acc = some (accO acc ys) ∧ W i n σc ys H') ?_ m0 ⟨0, _, [], H3, Jx, tx, fun b hb => (hf3 b hb).1, by rw [← hH3]; exact upd_same, by rw [← hH3]; exact w0⟩
    rintro n s4 ⟨i, σ4, ys, H4, I4, t4, fr4, a4, w4⟩
    rcases turn i n σ4 ys H4 w4 a4 with ⟨stop, qn⟩ | ⟨go, step⟩
    · refine thn (T.done (cxComp X pins (own ++ fr) scope cl fp s3 H3) rfl rfl rfl hcalm i [] s4 σ4 H4 NoX I4 (stat rfl fr4) t4 stop) fun r s5 ⟨hr, I5⟩ => ?_
      subst hr
      obtain ⟨m, hm, _⟩ := id I5.loc
      have IX := comp_back I3 hf3 I5
      have IL := IX.retrack (o' := .lst ys) a4 rfl fun H' => of_acc (H := H') (by obtain ⟨p1, p2, p3⟩ := IX.hok acc _ a4; exact ⟨p1, p2, p3⟩)
      refine fin acc s3.heap.objs.size _ s5 m IL qn hm (I3.fpOk (Nat.le_refl _) ?_)
      have c4 : H4 s3.heap.objs.size = none := I5.free
      rw [upd_ne (fun z => by rw [z, a4] at c4; cases c4)]; exact c4
    · refine thn (T.item (cxComp X pins (own ++ fr) scope cl fp s3 H3) rfl rfl rfl hcalm i [] s4 σ4 H4 NoX I4 (stat rfl fr4) t4 go) fun r s5 ⟨u, hr, q5⟩ => ?_
      subst hr
      refine thn q5 fun _ s6 ⟨x, H6, I6, r6, y6, t6, fr6⟩ => ?_
      have I6' := I6.pinned (stat rfl fr6) (T.obj _ _ t6)
      refine thn (hg _ s6 σ4 H6 x u _ I6' r6 (step x H6 y6)) fun _ s7 ⟨σ7, H7, I7, q7⟩ => ?_
      refine thn (tests_ok ifs _ s7 H7 ht I7 q7) fun ok s8 ⟨H8, I8, q8⟩ => ?_
      have again : ∀ {σ9 : St} {H9 : Hp} {s9 : Shared} {zs : List V} {m : Nat}, Inv (cxComp X pins (own ++ fr) scope cl fp s3 H3) ([] ++ pinsAt fp s6.heap) σ9 H9 s9 → H9 acc = some (accO acc zs) → m < n → W (i + 1) m σ9 zs H9 →
          ∃ m, m < n ∧ ∃ i σc ys H', Inv (cxComp X pins (own ++ fr) scope cl fp s3 H3) [] σc H' s9 ∧ tn i s9.heap ∧ (∀ b ∈ fp, H' b = none) ∧ H' acc = some (accO acc ys) ∧ W i m σc ys H' := fun {σ9 H9 s9 zs m} I9 a9 hm w9 => by
        refine ⟨m, hm, i + 1, σ9, zs, H9, I9.unpinned, T.keep _ _ _ t6 fun b hb o e => (I9.pin (b, o) (List.mem_append_right _ (List.mem_append_right _ (mem_pinsAt hb e)))).1, fun b hb => ?_, a9, w9⟩
        obtain ⟨o, e, d⟩ := T.obj _ _ t6 b hb
        exact (I9.pin (b, o) (List.mem_append_right _ (List.mem_append_right _ (mem_pinsAt hb e)))).2.1
      cases ok with
      | false =>
        obtain ⟨a8, m', hm, w8⟩ := (show H8 acc = some (accO acc ys) ∧ ∃ m', m' < n ∧ W (i + 1) m' σ7 ys H8 by simpa using q8)
        exact again I8 a8 hm w8
      | true =>
        have q8' : te pins fp s3 H3 σ7 H8 fun y H4 => H4 acc = some (accO acc ys) ∧ ys.length < sizeLine ∧ ∃ m', m' < n ∧ W (i + 1) m' σ7 (ys ++ [y]) (upd H4 acc (accO acc (ys ++ [y]))) := by simpa using q8
        refine thn (he _ s8 σ7 H8 _ I8 q8') fun v s9 ⟨y, H9, I9, r9, a9, hl, m', hm, w9⟩ => ?_
        have IL := I9.retrack (o' := .lst ys) a9 rfl fun H' => of_acc (H := H') (by obtain ⟨p1, p2, p3⟩ := I9.hok acc _ a9; exact ⟨p1, p2, p3⟩)
        refine thn (mt_append _ s9 σ7 _ (.ref acc) [y] (.ref acc) [v] (fun _ H' => H' = upd H9 acc (.lst (ys ++ [y]))) IL rfl (.cons r9 .nil) ⟨acc, ys, y, rfl, rfl, upd_same, hl, by rw [upd_upd]⟩) fun _ s10 ⟨_, H10, I10, _, e10⟩ => ?_
        subst e10
        have I11 := I10.retrack (o' := accO acc (ys ++ [y])) upd_same rfl fun H' => acc_of (H := H') (by obtain ⟨p1, p2, p3⟩ := I10.hok acc _ upd_same; exact ⟨p1, p2, p3⟩)
        rw [upd_upd] at I11
        exact again I11 upd_same hm w9
  exact codeAny_compStart_list (loop Ic (T.keep _ _ _ t3' fun b _ o e => hk b o e)) (T.self _ 0 _ _ _ (T.keep _ _ _ t3' fun b _ o e => hk b o e) (loop Ic (T.keep _ _ _ t3' fun b _ o e => hk b o e)))
theorem pe_comp {elt tg iter : Expr} {ifs : List Expr} {scope : Scope} {pos : Pos} {cl : List (Str × Addr)} (own fr : List Str) (js : List Nat) {wi : TI} {g : CA TG} {ts : CA (List TT)} {te : CA TE}
    (hcalm : X.calm = true) (O : CompOk X scope cl own fr js) (hi : PI X tg iter wi)
    (hb : ∀ pins fp s Hc, PG (cxComp X pins (own ++ fr) scope cl fp s Hc) tg (g pins fp s Hc) ∧ PTs (cxComp X pins (own ++ fr) scope cl fp s Hc) ifs (ts pins fp s Hc) ∧ PE (cxComp X pins (own ++ fr) scope cl fp s Hc) elt (te pins fp s Hc))
    (hs : ∀ x, foldedSetIterable iter X.env x = pure x := by intro _; rfl) :
    PE X (.ListComp elt [⟨tg, iter, ifs, 0⟩] scope pos) (tComp wi own js g ts te) := by
  intro pins s σ H Q I h
  rw [eval_ListComp]
  refine wpAny_comprehension_free (use := none) rfl hs (closureFor_of O.clos) O.kind O.nl (thn (hi pins s σ H _ I h) fun xv s1 q1 => thn q1 fun itv s2 q2 => ?_)
  obtain ⟨it, fp, tn, J, H2, rfl, I2, T, t2, f2, q⟩ := q2
  refine comp_core (RR := fun acc C => compPost (model X.prog X.w) X.A X.xe none (EP X pins σ Q) acc C) O hcalm hb I2 T t2 f2 q fun acc C H' s' m I' r' hm hC => ⟨m, hm, fun h' sb => ?_⟩
  obtain ⟨f0, f1, f2, f3, f4, f5⟩ := hC
  exact ⟨.ref acc, H', I'.turned (t' := s'.toks) (fun b o hb e => (sb.2 b hb).trans e) f0 f1 f3 f4 f5, rfl, r'⟩
theorem ps_setComp {i : Nat} {x : Str} {elt tg iter : Expr} {ifs : List Expr} {scope : Scope} {pos pos' spos : Pos} {cl : List (Str × Addr)} (own fr : List Str) (js : List Nat) {wi : TI} {g : CA TG} {ts : CA (List TT)} {te : CA TE}
    (hN : X.N.Nodup) (hix : X.N[i]? = some x) (hx : Loc X.env.scope x) (hcalm : X.calm = true) (O : CompOk X scope cl own fr js) (hi : PI X tg iter wi)
    (hb : ∀ pins fp s Hc, PG (cxComp X pins (own ++ fr) scope cl fp s Hc) tg (g pins fp s Hc) ∧ PTs (cxComp X pins (own ++ fr) scope cl fp s Hc) ifs (ts pins fp s Hc) ∧ PE (cxComp X pins (own ++ fr) scope cl fp s Hc) elt (te pins fp s Hc))
    (hsw : swapsWith (.ListComp elt [⟨tg, iter, ifs, 0⟩] scope pos) (some (.Name x pos')) spos.line X.env = pure true := by rfl)
    (hs : ∀ x, foldedSetIterable iter X.env x = pure x := by intro _; rfl) (hf : X.fn x = true ∨ X.env.scope.names.lookup x = some .local := by first | exact .inl rfl | exact .inr rfl | assumption) :
    PS X (.Assign [.Name x pos'] (.ListComp elt [⟨tg, iter, ifs, 0⟩] scope pos) spos) (tAsg (tComp wi own js g ts te) (gName i)) := by
  intro pins s σ H D I h
  rw [exec_Assign_Name_used _ _ _ _ hsw]
  refine wpAny_bind (wpAny_standAt (wpAny_bind ?_))
  show wpAny _ _ (comprehension (.ListComp elt [⟨tg, iter, ifs, 0⟩] scope pos) scope X.env (firstIterPos [⟨tg, iter, ifs, 0⟩] pos) (newList []) false (eval iter X.env) (some (assign (.Name x pos') X.env)) >>= _) _ _ _
  refine wpAny_bind ?_
  have h' : wi σ H fun J H1 => ∀ acc, H1 acc = none → ∀ pins fp s Hc, rComp J (g pins fp s Hc) (ts pins fp s Hc) (te pins fp s Hc) acc (cSt own js σ) H1 fun H' => D.nx (σ.set i (some (.ref acc))) H' := h
  refine wpAny_comprehension_free (use := some (assign (.Name x pos') X.env)) rfl hs (closureFor_of O.clos) O.kind O.nl (thn (hi pins s σ H _ I h') fun xv s1 q1 => thn q1 fun itv s2 q2 => ?_)
  obtain ⟨it, fp, tn, J, H2, rfl, I2, T, t2, f2, q⟩ := q2
  refine comp_core (RR := fun acc C => compPost (model X.prog X.w) X.A X.xe (some (assign (.Name x pos') X.env)) _ acc C) O hcalm hb I2 T t2 f2 q fun acc C H' s' m I' r' hm hC => ?_
  obtain ⟨f0, f1, f2, f3, f4, f5⟩ := hC
  obtain ⟨oc, es, ep, ho, hd, hr⟩ := id hm
  have IP : Inv X (pins ++ [(C, oc)]) σ H' s' := I'.pins_of fun p hp => by
    rcases List.mem_append.mp hp with q | q
    · exact I'.pin p (List.mem_append_right _ q)
    · obtain rfl : p = (C, oc) := by simpa using q
      exact ⟨ho, f0, f1, f2, fun v z => by rw [hd] at z; cases z⟩
  refine wpAny_assign_Name (store_ok IP hN hix hx (v := .ref acc) (u := .ref acc) rfl (fun s'' I'' => ?_) hf)
  have hC'' := (I''.pin (C, oc) (List.mem_append_right _ (List.mem_append_right _ (by simp)))).1
  refine ⟨m, ⟨oc, es, ep, hC'', hd, hr⟩, fun h' sb => ?_⟩
  exact wpAny_pure (wpAny_pure ⟨_, H', (I''.unpinned).turned (t' := s''.toks) (fun b o hb e => (sb.2 b hb).trans e) f0 f1 f3 f4 f5, r'⟩)
end
section
variable {K : PySem.W.Frag} {ts : List TT} {te : TE} {acc : Addr} {fr : St} {H1 : Hp} {R : Hp → Prop} {xs ys : List V}
theorem r_comp {wi : TI} {own : List Str} {js : List Nat} {g : CA TG} {ts : CA (List TT)} {te : CA TE} {σ : St} {H : Hp} {Q : VK} (q : wi σ H fun J H1 => ∀ acc, H1 acc = none → ∀ pins fp s Hc, rComp J (g pins fp s Hc) (ts pins fp s Hc) (te pins fp s Hc) acc (cSt own js σ) H1 fun H' => Q (.ref acc) H') : tComp wi own js g ts te σ H Q := q
def Turned (ts : List TT) (te : TE) (Pv : List V → Hp → Prop) (ys : List V) (H : Hp) (σ2 : St) (H2 : Hp) : Prop :=
  ∀ (Y : V → Hp → Prop) (N : Hp → Prop), (∀ y H', Ext H H' → Pv (ys ++ [y]) H' → Y y H') → (∀ H', Ext H H' → Pv ys H' → N H') → tTests ts σ2 H2 fun b H3 => if b = true then te σ2 H3 Y else N H3
theorem comp_gen {J : It} {g : TG} {σ0 : St} (n : Nat) (hz : n ≤ 1000000) (hn : H1 acc = none) (Sv : St → Prop) (Pv : Nat → List V → Hp → Prop) (s0 : Sv σ0) (h0 : Pv 0 [] H1) (kp : ∀ i ys H H', Kp H H' → Pv i ys H → Pv i ys H')
    (hgo : ∀ i H, i < n → Ext H1 H → J.go i H) (hst : ∀ H, Ext H1 H → J.stop n H) (len : ∀ i ys H, i ≤ n → Pv i ys H → ys.length ≤ i)
    (turn : ∀ i σ ys H x H' (G : St → Hp → Prop), i < n → Ext H1 H → Sv σ → Pv i ys H → J.yld i H x H' → (∀ σ2 H2, Sv σ2 → Turned ts te (Pv (i + 1)) ys H σ2 H2 → G σ2 H2) → g x σ H' G)
    (fin : ∀ ys H, Ext H1 H → H acc = some (.lst ys) → Pv n ys H → R H) : rComp J g ts te acc σ0 H1 R := by
  have e0 : Ext H1 (upd H1 acc (accO acc [])) := ext_upd hn
  refine ⟨fun i m σ ys H => m = n - i ∧ i ≤ n ∧ Ext H1 H ∧ Sv σ ∧ Pv i ys H, ⟨n, by omega, Nat.zero_le _, e0, s0, kp _ _ _ _ e0.kp h0⟩, ?_⟩
  rintro i m σ ys H ⟨rfl, hi, e, sv, pv⟩ ha
  by_cases hlt : i < n
  · refine .inr ⟨hgo i H hlt e, fun x H' y => turn i σ ys H x H' _ hlt e sv pv y fun σ2 H2 s2 q2 => ?_⟩
    refine q2 _ _ (fun y H4 e4 p4 => ?_) fun H3 e3 p3 => ?_
    · have a4 : H4 acc = some (accO acc ys) := e4 _ _ ha
      have z : ys.length < sizeLine := by have := len _ _ _ hi pv; rw [sizeLine_eq]; omega
      refine ⟨a4, z, n - (i + 1), by omega, rfl, hlt, fun b o hb => ?_, s2, kp _ _ _ _ (kp_upd a4 rfl) p4⟩
      rw [upd_ne (ne_of_none hb hn)]
      exact e4 _ _ (e _ _ hb)
    · exact ⟨e3 _ _ ha, n - (i + 1), by omega, rfl, hlt, e.tr e3, s2, p3⟩
  · have hn' : i = n := by omega
    subst hn'
    refine .inl ⟨hst H e, fin ys _ (fun b o hb => ?_) upd_same (kp _ _ _ _ (kp_upd ha rfl) pv)⟩
    rw [upd_ne (ne_of_none hb hn)]
    exact e _ _ hb
theorem comp_list {a : Addr} {u : Option V} (hx : SqL K H1 a xs) (hz : xs.length ≤ 1000000) (hn : H1 acc = none) (Pv : Nat → List V → Hp → Prop) (h0 : Pv 0 [] H1) (kp : ∀ i ys H H', Kp H H' → Pv i ys H → Pv i ys H') (len : ∀ i ys H, i ≤ xs.length → Pv i ys H → ys.length ≤ i)
    (turn : ∀ i x ys H, xs[i]? = some x → Ext H1 H → Pv i ys H → Turned ts te (Pv (i + 1)) ys H (some x :: fr) H)
    (fin : ∀ ys H, Ext H1 H → H acc = some (.lst ys) → Pv xs.length ys H → R H) : rComp (Itl K a) (gName 0) ts te acc (u :: fr) H1 R := by
  refine comp_gen xs.length hz hn (fun σ => ∃ u, σ = u :: fr) Pv ⟨u, rfl⟩ h0 kp (fun i H hi e => ⟨xs, xs[i], e.seqL hx, List.getElem?_eq_getElem hi⟩) (fun H e => ⟨xs, e.seqL hx, Nat.le_refl _⟩) len ?_ fin
  rintro i σ ys H x H' G hi e ⟨u, rfl⟩ pv ⟨rfl, y⟩ hG
  have := y xs (e.seqL hx)
  exact hG _ _ ⟨some x, rfl⟩ (turn i x ys _ this e pv)
theorem comp_tup {a : Addr} {u : Option V} (hx : SqT K H1 a xs) (hz : xs.length ≤ 1000000) (hn : H1 acc = none) (Pv : Nat → List V → Hp → Prop) (h0 : Pv 0 [] H1) (kp : ∀ i ys H H', Kp H H' → Pv i ys H → Pv i ys H') (len : ∀ i ys H, i ≤ xs.length → Pv i ys H → ys.length ≤ i)
    (turn : ∀ i x ys H, xs[i]? = some x → Ext H1 H → Pv i ys H → Turned ts te (Pv (i + 1)) ys H (some x :: fr) H)
    (fin : ∀ ys H, Ext H1 H → H acc = some (.lst ys) → Pv xs.length ys H → R H) : rComp (Itt K a) (gName 0) ts te acc (u :: fr) H1 R := by
  refine comp_gen xs.length hz hn (fun σ => ∃ u, σ = u :: fr) Pv ⟨u, rfl⟩ h0 kp (fun i H hi e => ⟨xs, xs[i], e.seqT hx, List.getElem?_eq_getElem hi⟩) (fun H e => ⟨xs, e.seqT hx, Nat.le_refl _⟩) len ?_ fin
  rintro i σ ys H x H' G hi e ⟨u, rfl⟩ pv ⟨rfl, y⟩ hG
  have := y xs (e.seqT hx)
  exact hG _ _ ⟨some x, rfl⟩ (turn i x ys _ this e pv)
theorem comp_range {lo : Int} {n : Nat} {u : Option V} (hz : n ≤ 1000000) (hn : H1 acc = none) (Pv : Nat → List V → Hp → Prop) (h0 : Pv 0 [] H1) (kp : ∀ i ys H H', Kp H H' → Pv i ys H → Pv i ys H') (len : ∀ i ys H, i ≤ n → Pv i ys H → ys.length ≤ i)
    (turn : ∀ i ys H, i < n → Ext H1 H → Pv i ys H → Turned ts te (Pv (i + 1)) ys H (some (.int (lo + i)) :: fr) H)
    (fin : ∀ ys H, Ext H1 H → H acc = some (.lst ys) → Pv n ys H → R H) : rComp (Itr lo n) (gName 0) ts te acc (u :: fr) H1 R := by
  refine comp_gen n hz hn (fun σ => ∃ u, σ = u :: fr) Pv ⟨u, rfl⟩ h0 kp (fun i H hi e => hi) (fun H e => Nat.le_refl _) len ?_ fin
  rintro i σ ys H x H' G hi e ⟨u, rfl⟩ pv ⟨rfl, rfl⟩ hG
  exact hG _ _ ⟨_, rfl⟩ (turn i ys _ hi e pv)
end
def ItA (b : Bool) (h : Heap) (it l : Addr) (k : Nat) : Prop := match b with | false => h.IsListIter it l k | true => h.IsTupleIter it l k
def SqA (b : Bool) (h : Heap) (l : Addr) (xs : Array Value) : Prop := match b with | false => h.IsList l xs | true => h.IsTuple l xs
theorem ItA.ex {b : Bool} {h : Heap} {it l : Addr} {k : Nat} (x : ItA b h it l k) : ∃ o, h.get? it = some o ∧ ∀ v, o.data ≠ .cell v := by
  cases b <;> (obtain ⟨o, e, _, d⟩ := x; exact ⟨o, e, fun v z => by rw [d] at z; cases z⟩)
theorem ItA.at {b : Bool} {h h' : Heap} {it l : Addr} {k : Nat} (x : ItA b h it l k) (f : ∀ o, h.get? it = some o → h'.get? it = some o) : ItA b h' it l k := by
  cases b <;> (obtain ⟨o, e, r⟩ := x; exact ⟨o, f o e, r⟩)
theorem SqA.at {b : Bool} {h h' : Heap} {l : Addr} {xs : Array Value} (x : SqA b h l xs) (f : ∀ o, h.get? l = some o → h'.get? l = some o) : SqA b h' l xs := by
  cases b <;> (obtain ⟨o, e, r⟩ := x; exact ⟨o, f o e, r⟩)
theorem SqA.lt {b : Bool} {h : Heap} {l : Addr} {xs : Array Value} (x : SqA b h l xs) : l < h.objs.size := by
  cases b <;> (obtain ⟨o, e, _⟩ := x; exact Heap.lt_size e)
theorem ItA.lt {b : Bool} {h : Heap} {it l : Addr} {k : Nat} (x : ItA b h it l k) : it < h.objs.size := by
  obtain ⟨o, e, _⟩ := x.ex; exact Heap.lt_size e
section
variable {prog : Program} {w : World} {A : Around} {E : Value → Shared → Prop} {s : Shared}
theorem nextT_item {it l : Addr} {k : Nat} {xs : Array Value} {x : Value} {Q : Value → Shared → Prop} (i0 : s.heap.IsTupleIter it l k) (l0 : s.heap.IsTuple l xs) (hx : xs[k]? = some x)
    (q : ∀ h', h'.IsTupleIter it l (k + 1) → Heap.SameBut it s.heap h' → Q x { s with heap := h' }) : wpAny (model prog w) A (Builtin.SmallTypes.nextOf (.ref it)) Q E s := by
  obtain ⟨oi, ei, ci, di⟩ := id i0
  obtain ⟨ol, el, _, nl, dl⟩ := l0
  unfold Builtin.SmallTypes.nextOf
  refine wpAny_bind (wpAny_callSpecial?_slot (name := Str.ofString "__next__") i0.typeIs F.slot_tuple_iterator_next (wpAny_call_entry F.slot_tuple_iterator_next i0.typeIs F.entry_tuple_iterator_next ?_ (F.args_tuple_iterator_next_1 _)))
  show wpAny _ _ (field (.ref it) 0 >>= _) _ _ _; refine wpAny_bind (wpAny_field ei di (x := .ref l) rfl ?_)
  show wpAny _ _ (if (Value.ref l == Value.none) = true then _ else _) _ _ _; rw [if_neg (show ¬ ((Value.ref l == Value.none) = true) from fun z => Bool.false_ne_true z)]
  show wpAny _ _ (field (.ref it) 1 >>= _) _ _ _; refine wpAny_bind (wpAny_field ei di (x := .int k 0) rfl ?_)
  show wpAny _ _ (seqItems? (.ref l) >>= _) _ _ _; refine wpAny_bind (wpAny_seqItems el dl ?_)
  simp only [Int.toNat_natCast, hx]; refine wpAny_bind (wpAny_setField ei di (by simp) (wpAny_pure ⟨x, rfl, wpAny_pure (q _ ⟨_, Heap.get?_update_self _ ei (Obj.isFreed_of_fields (Obj.data_mapFields di _)), (Obj.cls_mapFields ..).trans ci, ?_⟩ (Heap.SameBut.update ..))⟩))
  rw [Obj.data_mapFields di]; simp [rawInt]
theorem nextT_end {it l : Addr} {k : Nat} {xs : Array Value} {Q : Value → Shared → Prop} (hh : A.handled = none) (i0 : s.heap.IsTupleIter it l k) (l0 : s.heap.IsTuple l xs) (hx : xs[k]? = none)
    (q : ∀ h' e, Heap.ExtBut it s.heap h' → (∃ o, h'.get? e = some o ∧ o.cls = .type "StopIteration") → E (.ref e) { s with heap := h' }) : wpAny (model prog w) A (Builtin.SmallTypes.nextOf (.ref it)) Q E s := by
  obtain ⟨oi, ei, ci, di⟩ := id i0
  obtain ⟨ol, el, _, nl, dl⟩ := l0
  unfold Builtin.SmallTypes.nextOf
  refine wpAny_bind (wpAny_callSpecial?_slot (name := Str.ofString "__next__") i0.typeIs F.slot_tuple_iterator_next (wpAny_call_entry F.slot_tuple_iterator_next i0.typeIs F.entry_tuple_iterator_next ?_ (F.args_tuple_iterator_next_1 _)))
  show wpAny _ _ (field (.ref it) 0 >>= _) _ _ _; refine wpAny_bind (wpAny_field ei di (x := .ref l) rfl ?_)
  show wpAny _ _ (if (Value.ref l == Value.none) = true then _ else _) _ _ _; rw [if_neg (show ¬ ((Value.ref l == Value.none) = true) from fun z => Bool.false_ne_true z)]
  show wpAny _ _ (field (.ref it) 1 >>= _) _ _ _; refine wpAny_bind (wpAny_field ei di (x := .int k 0) rfl ?_)
  show wpAny _ _ (seqItems? (.ref l) >>= _) _ _ _; refine wpAny_bind (wpAny_seqItems el dl ?_)
  simp only [Int.toNat_natCast, hx]; refine wpAny_bind (wpAny_rule (wpAny_bind (wpAny_setField ei di (by simp) ?_)))
  show wpAny _ _ (newExc (.type "StopIteration") [] >>= _) _ _ _; refine wpAny_bind ?_; simp only [newExc, newTuple]
  refine wpAny_bind (wpAny_newObj_type ?_ (by size_fits)); refine wpAny_bind (m := firstArgMember _ _) (wpAny_of_eq (a := Value.none) (by first | rfl | (simp only [firstArgMember]; rfl)) ?_)
  refine wpAny_newObj_type ?_ (by size_fits); simp only [raiseNew]; refine wpAny_bind (wpAny_handled ?_)
  first | rw [show A.in1.handled = none from hh] | rw [hh]
  refine wpAny_bind (wpAny_pure (wpAny_throw ?_)); exact q _ _ (((Heap.SameBut.update ..).extBut.push _).push _) ⟨_, Heap.get?_push_size _ rfl, rfl⟩
theorem nextA_item {b : Bool} {it l : Addr} {k : Nat} {xs : Array Value} {x : Value} {Q : Value → Shared → Prop} (i0 : ItA b s.heap it l k) (l0 : SqA b s.heap l xs) (hx : xs[k]? = some x)
    (q : ∀ h', ItA b h' it l (k + 1) → Heap.SameBut it s.heap h' → Q x { s with heap := h' }) : wpAny (model prog w) A (Builtin.SmallTypes.nextOf (.ref it)) Q E s := by
  cases b
  · exact wpAny_nextOf_list_item i0 l0 hx q
  · exact nextT_item i0 l0 hx q
theorem nextA_end {b : Bool} {it l : Addr} {k : Nat} {xs : Array Value} {Q : Value → Shared → Prop} (hh : A.handled = none) (i0 : ItA b s.heap it l k) (l0 : SqA b s.heap l xs) (hx : xs[k]? = none)
    (q : ∀ h' e, Heap.ExtBut it s.heap h' → (∃ o, h'.get? e = some o ∧ o.cls = .type "StopIteration") → E (.ref e) { s with heap := h' }) : wpAny (model prog w) A (Builtin.SmallTypes.nextOf (.ref it)) Q E s := by
  cases b
  · exact wpAny_nextOf_list_end hh i0 l0 hx q
  · exact nextT_end hh i0 l0 hx q
theorem zipA_item {c d : Bool} {z TI TO i1 i2 l1 l2 : Addr} {k : Nat} {xs ys : Array Value} {x y p q : Value} {Q : Option Value → Shared → Prop} (D : ZipApart z TI TO i1 i2 l1 l2)
    (hz : IsZip s.heap z TI TO .none) (hI : IsPair s.heap TI (.ref i1) (.ref i2)) (hO : IsPair s.heap TO p q) (a1 : ItA c s.heap i1 l1 k) (a2 : ItA d s.heap i2 l2 k) (b1 : SqA c s.heap l1 xs) (b2 : SqA d s.heap l2 ys) (hx : xs[k]? = some x) (hy : ys[k]? = some y)
    (hQ : ∀ h', IsZip h' z TI TO (rawInt s.heap.objs.size) → IsPair h' TO x y → ItA c h' i1 l1 (k + 1) → ItA d h' i2 l2 (k + 1) → IsPair h' s.heap.objs.size x y →
      (∀ e o, e ≠ z → e ≠ TO → e ≠ i1 → e ≠ i2 → s.heap.get? e = some o → h'.get? e = some o) → Q (some (.ref s.heap.objs.size)) { s with heap := h' }) : wpAny (model prog w) A (pyNext (.ref z)) Q E s := by
  have tz : s.TypeIs (.ref z) "zip" := ⟨_, hz, rfl⟩
  unfold pyNext
  refine wpAny_bind (wpAny_attempt (wpAny_callSpecial?_slot (name := Str.ofString "__next__") tz F.slot_zip_next (wpAny_call_entry F.slot_zip_next tz F.entry_zip_next ?_ (F.args_zip_next_1 _))))
  show wpAny _ _ (field (.ref z) 2 >>= _) _ _ _; refine wpAny_bind (wpAny_field hz rfl (x := .bool false) rfl ?_)
  show wpAny _ _ (field (.ref z) 3 >>= _) _ _ _; refine wpAny_bind (wpAny_field hz rfl (x := .ref TI) rfl (wpAny_bind (wpAny_seqItems hI rfl ?_)))
  show wpAny _ _ (Builtin.SmallTypes.ownedTupleIsFree (.ref z) >>= _) _ _ _; refine wpAny_bind ?_; unfold Builtin.SmallTypes.ownedTupleIsFree
  refine wpAny_bind (wpAny_field hz rfl (x := .none) rfl (wpAny_pure ?_)); simp only [if_true]
  refine wpAny_bind (wpAny_rule (wpAny_bind (wpAny_field hz rfl (x := .ref TO) rfl (wpAny_bind (wpAny_setField_rec hz (by simp) fun g1 z1 s1 => ?_)))))
  replace z1 : IsZip g1 z TI TO .ellipsis := z1
  refine wpAny_bind ?_; simp only [List.zipIdx_cons, List.zipIdx_nil, List.forIn_cons, List.forIn_nil]
  refine wpAny_bind (wpAny_bind (wpAny_onRaise ?_))
  show wpAny _ _ (Builtin.SmallTypes.nextOf (.ref i1) >>= _) _ _ _
  refine wpAny_bind (nextA_item (a1.at fun o e => s1.extBut _ o D.i1z e) (b1.at fun o e => s1.extBut _ o D.l1z e) hx fun g2 j1 s2 => wpAny_pure ?_)
  have o2 : IsPair g2 TO p q := s2.extBut _ _ D.TOi1 (s1.extBut _ _ D.TOz hO)
  refine wpAny_bind (wpAny_seqItems o2 rfl (wpAny_bind (wpAny_updateSeq_pair o2 fun g3 o3 s3 => wpAny_bind (wpAny_letGo (wpAny_pure ?_)))))
  replace o3 : IsPair g3 TO x q := o3
  refine wpAny_bind (wpAny_bind (wpAny_onRaise ?_))
  show wpAny _ _ (Builtin.SmallTypes.nextOf (.ref i2) >>= _) _ _ _
  refine wpAny_bind (nextA_item (a2.at fun o e => s3.extBut _ o D.TOi2.symm (s2.extBut _ o D.i12.symm (s1.extBut _ o D.i2z e))) (b2.at fun o e => s3.extBut _ o D.l2TO (s2.extBut _ o D.l2i1 (s1.extBut _ o D.l2z e))) hy fun g4 j2 s4 => wpAny_pure ?_)
  have o4 : IsPair g4 TO x q := s4.extBut _ _ D.TOi2 o3
  refine wpAny_bind (wpAny_seqItems o4 rfl (wpAny_bind (wpAny_updateSeq_pair o4 fun g5 o5 s5 => wpAny_bind (wpAny_letGo (wpAny_pure (wpAny_pure ?_))))))
  replace o5 : IsPair g5 TO x y := o5
  refine wpAny_bind (wpAny_seqItems o5 rfl (wpAny_bind (wpAny_newTuple ?_)))
  have n5 : g5.objs.size = s.heap.objs.size := by rw [s5.1, s4.1, s3.1, s2.1, s1.1]
  have z5 : IsZip g5 z TI TO .ellipsis := s5.extBut _ _ D.TOz.symm (s4.extBut _ _ D.i2z.symm (s3.extBut _ _ D.TOz.symm (s2.extBut _ _ D.i1z.symm z1)))
  have k5 : ∀ e o, e ≠ z → e ≠ TO → e ≠ i1 → e ≠ i2 → s.heap.get? e = some o → g5.get? e = some o := fun e o q1 q2 q3 q4 h => s5.extBut _ _ q2 (s4.extBut _ _ q4 (s3.extBut _ _ q2 (s2.extBut _ _ q3 (s1.extBut _ _ q1 h))))
  have j5 : ItA c g5 i1 l1 (k + 1) := j1.at fun o e => s5.extBut _ o D.TOi1.symm (s4.extBut _ o D.i12 (s3.extBut _ o D.TOi1.symm e))
  have m5 : ItA d g5 i2 l2 (k + 1) := j2.at fun o e => s5.extBut _ o D.TOi2.symm e
  have lz : z < g5.objs.size := Heap.lt_size z5
  show wpAny _ _ (Builtin.SmallTypes.ownedTupleHandOut (.ref z) (.ref g5.objs.size) >>= _) _ _ _; refine wpAny_bind ?_; unfold Builtin.SmallTypes.ownedTupleHandOut
  have z6 : IsZip (g5.push { cls := .type "tuple", data := .seq #[x, y] }) z TI TO .ellipsis := Heap.get?_push_of_some _ z5
  refine wpAny_bind (wpAny_setField_rec z6 (by simp) fun g7 z7 s7 => ?_)
  replace z7 : IsZip g7 z TI TO (rawInt g5.objs.size) := z7
  refine wpAny_setField_rec z7 (by simp) fun g8 z8 s8 => ?_
  replace z8 : IsZip g8 z TI TO (rawInt g5.objs.size) := z8
  have k8 : ∀ e o, e ≠ z → g5.get? e = some o → g8.get? e = some o := fun e o q1 h => s8.extBut _ _ q1 (s7.extBut _ _ q1 (Heap.get?_push_of_some _ h))
  have t8 : IsPair g8 g5.objs.size x y := s8.extBut _ _ (Nat.ne_of_gt lz) (s7.extBut _ _ (Nat.ne_of_gt lz) (Heap.get?_push_size _ rfl))
  refine wpAny_pure ⟨_, rfl, wpAny_pure ?_⟩
  rw [n5] at z8 t8
  show Q (some (.ref g5.objs.size)) _
  rw [n5]
  exact hQ g8 z8 (k8 _ _ D.TOz o5) (j5.at fun o e => k8 _ o D.i1z e) (m5.at fun o e => k8 _ o D.i2z e) t8 fun e o q1 q2 q3 q4 h => k8 e o q1 (k5 e o q1 q2 q3 q4 h)
theorem zipA_end {c d : Bool} {z TI TO i1 i2 l1 l2 : Addr} {k : Nat} {xs ys : Array Value} {p q : Value} {Q : Option Value → Shared → Prop} (hh : A.handled = none) (D : ZipApart z TI TO i1 i2 l1 l2)
    (hz : IsZip s.heap z TI TO .none) (hI : IsPair s.heap TI (.ref i1) (.ref i2)) (hO : IsPair s.heap TO p q) (a1 : ItA c s.heap i1 l1 k) (a2 : ItA d s.heap i2 l2 k) (b1 : SqA c s.heap l1 xs) (b2 : SqA d s.heap l2 ys) (hend : xs[k]? = none ∨ ys[k]? = none)
    (hQ : ∀ h', (∀ e o, e ≠ z → e ≠ TO → e ≠ i1 → e ≠ i2 → s.heap.get? e = some o → h'.get? e = some o) → Q none { s with heap := h' }) : wpAny (model prog w) A (pyNext (.ref z)) Q E s := by
  have tz : s.TypeIs (.ref z) "zip" := ⟨_, hz, rfl⟩
  have stopped : ∀ {h' : Heap} {e : Addr}, (∃ o, h'.get? e = some o ∧ o.cls = .type "StopIteration") → (∀ e o, e ≠ z → e ≠ TO → e ≠ i1 → e ≠ i2 → s.heap.get? e = some o → h'.get? e = some o) →
      wpAny (model prog w) A (do if ← isInstance (.ref e) (.type "StopIteration") then pure (none : Option Value) else throw (.ref e)) Q E { s with heap := h' } := fun {h' e} ⟨o, ho, hc⟩ hk =>
    wpAny_bind (wpAny_isInstance (T := "StopIteration") (b := true) ⟨o, ho, hc⟩ isSubtype_stop (wpAny_pure (hQ _ hk)))
  unfold pyNext
  refine wpAny_bind (wpAny_attempt (wpAny_callSpecial?_slot (name := Str.ofString "__next__") tz F.slot_zip_next (wpAny_call_entry F.slot_zip_next tz F.entry_zip_next ?_ (F.args_zip_next_1 _))))
  show wpAny _ _ (field (.ref z) 2 >>= _) _ _ _; refine wpAny_bind (wpAny_field hz rfl (x := .bool false) rfl ?_)
  show wpAny _ _ (field (.ref z) 3 >>= _) _ _ _; refine wpAny_bind (wpAny_field hz rfl (x := .ref TI) rfl (wpAny_bind (wpAny_seqItems hI rfl ?_)))
  show wpAny _ _ (Builtin.SmallTypes.ownedTupleIsFree (.ref z) >>= _) _ _ _; refine wpAny_bind ?_; unfold Builtin.SmallTypes.ownedTupleIsFree
  refine wpAny_bind (wpAny_field hz rfl (x := .none) rfl (wpAny_pure ?_)); simp only [if_true]
  refine wpAny_bind (wpAny_rule (wpAny_bind (wpAny_field hz rfl (x := .ref TO) rfl (wpAny_bind (wpAny_setField_rec hz (by simp) fun g1 z1 s1 => ?_)))))
  replace z1 : IsZip g1 z TI TO .ellipsis := z1
  refine wpAny_bind ?_; simp only [List.zipIdx_cons, List.zipIdx_nil, List.forIn_cons, List.forIn_nil]
  refine wpAny_bind (wpAny_bind (wpAny_onRaise ?_))
  show wpAny _ _ (Builtin.SmallTypes.nextOf (.ref i1) >>= _) _ _ _
  cases hx : xs[k]? with
  | none =>
    refine wpAny_bind (nextA_end hh (a1.at fun o e => s1.extBut _ o D.i1z e) (b1.at fun o e => s1.extBut _ o D.l1z e) hx fun g2 e s2 ⟨oe, he, ce⟩ => ?_)
    have z2 : IsZip g2 z TI TO .ellipsis := s2 _ _ D.i1z.symm z1
    have ez : e ≠ z := fun y => by subst y; rw [z2] at he; cases he; simp at ce
    exact wpAny_setField_rec z2 (by simp) fun g3 _ s3 => stopped ⟨oe, s3.extBut _ _ ez he, ce⟩ fun e o q1 _ q3 _ h => s3.extBut _ _ q1 (s2 _ _ q3 (s1.extBut _ _ q1 h))
  | some x =>
    have hy : ys[k]? = none := hend.resolve_left (by rw [hx]; simp)
    refine wpAny_bind (nextA_item (a1.at fun o e => s1.extBut _ o D.i1z e) (b1.at fun o e => s1.extBut _ o D.l1z e) hx fun g2 j1 s2 => wpAny_pure ?_)
    have o2 : IsPair g2 TO p q := s2.extBut _ _ D.TOi1 (s1.extBut _ _ D.TOz hO)
    refine wpAny_bind (wpAny_seqItems o2 rfl (wpAny_bind (wpAny_updateSeq_pair o2 fun g3 o3 s3 => wpAny_bind (wpAny_letGo (wpAny_pure ?_)))))
    refine wpAny_bind (wpAny_bind (wpAny_onRaise ?_))
    show wpAny _ _ (Builtin.SmallTypes.nextOf (.ref i2) >>= _) _ _ _
    refine wpAny_bind (nextA_end hh (a2.at fun o e => s3.extBut _ o D.TOi2.symm (s2.extBut _ o D.i12.symm (s1.extBut _ o D.i2z e))) (b2.at fun o e => s3.extBut _ o D.l2TO (s2.extBut _ o D.l2i1 (s1.extBut _ o D.l2z e))) hy fun g4 e s4 ⟨oe, he, ce⟩ => ?_)
    have z4 : IsZip g4 z TI TO .ellipsis := s4 _ _ D.i2z.symm (s3.extBut _ _ D.TOz.symm (s2.extBut _ _ D.i1z.symm z1))
    have ez : e ≠ z := fun y => by subst y; rw [z4] at he; cases he; simp at ce
    exact wpAny_setField_rec z4 (by simp) fun g5 _ s5 => stopped ⟨oe, s5.extBut _ _ ez he, ce⟩ fun e o q1 q2 q3 q4 h => s5.extBut _ _ q1 (s4 _ _ q4 (s3.extBut _ _ q2 (s2.extBut _ _ q3 (s1.extBut _ _ q1 h))))
def itO (b : Bool) (l : Addr) : Obj := { cls := .type (if b then "tuple_iterator" else "list_iterator"), data := .fields #[.ref l, .int 0 0] }
theorem iterA {b : Bool} {l : Addr} {xs : Array Value} {Q : Value → Shared → Prop} (h : SqA b s.heap l xs) (q : Q (.ref s.heap.objs.size) { s with heap := s.heap.push (itO b l) }) : wpAny (model prog w) A (pyIter (.ref l)) Q E s := by
  cases b
  · exact wpAny_pyIter_list h q
  · exact wpAny_pyIter_tuple h q
theorem itO_at {b : Bool} {l it : Addr} {h : Heap} (e : h.get? it = some (itO b l)) : ItA b h it l 0 := by
  cases b <;> exact ⟨_, e, rfl, rfl⟩
abbrev zh1 (c : Bool) (h : Heap) (l1 : Addr) : Heap := h.push (itO c l1)
abbrev zh2 (c d : Bool) (h : Heap) (l1 l2 : Addr) : Heap := (zh1 c h l1).push (itO d l2)
abbrev zh3 (c d : Bool) (h : Heap) (l1 l2 : Addr) : Heap := (zh2 c d h l1 l2).push { cls := .type "tuple", data := .seq #[.ref h.objs.size, .ref (zh1 c h l1).objs.size] }
abbrev zh4 (c d : Bool) (h : Heap) (l1 l2 : Addr) : Heap := (zh3 c d h l1 l2).push { cls := .type "tuple", data := .seq #[.none, .none] }
abbrev zh5 (c d : Bool) (h : Heap) (l1 l2 : Addr) : Heap := (zh4 c d h l1 l2).push { cls := .type "zip", data := .fields #[.none, .bool false, .bool false, .ref (zh2 c d h l1 l2).objs.size, .ref (zh3 c d h l1 l2).objs.size] }
theorem zipA_new (c d : Bool) (l1 l2 : Addr) (xs ys : Array Value) : Meets (Builtin.«zip.__new__» ⟨[.type "zip", .ref l1, .ref l2], []⟩) (fun _ R s => SqA c s.heap l1 xs ∧ SqA d s.heap l2 ys ∧ R (.ok (.ret (.ref (zh4 c d s.heap l1 l2).objs.size))) { s with heap := zh5 c d s.heap l1 l2 }) :=
  .of_wp fun prog w A R s h => by
    obtain ⟨hp, g, dd, tk, os⟩ := s
    obtain ⟨m1, m2, h⟩ := h
    have hsub := PySem.sub_zip
    have M1 : SqA c (Shared.heap ⟨hp, g, dd, tk, os⟩) l1 xs := m1
    have M2 : SqA d (Shared.heap ⟨hp.push (itO c l1), g, dd, tk, os⟩) l2 ys := m2.at fun o e => Heap.get?_push_of_some _ e
    wp_walk using iterA M1, iterA M2
    exact ⟨_, rfl, h⟩
theorem call_zipA {c d : Bool} {l1 l2 : Addr} {xs ys : Array Value} {Q : Value → Shared → Prop} (m1 : SqA c s.heap l1 xs) (m2 : SqA d s.heap l2 ys)
    (h : ∀ h', IsZip h' (s.heap.objs.size + 4) (s.heap.objs.size + 2) (s.heap.objs.size + 3) .none → IsPair h' (s.heap.objs.size + 2) (.ref s.heap.objs.size) (.ref (s.heap.objs.size + 1)) →
      IsPair h' (s.heap.objs.size + 3) .none .none → ItA c h' s.heap.objs.size l1 0 → ItA d h' (s.heap.objs.size + 1) l2 0 → (∀ e o, s.heap.get? e = some o → h'.get? e = some o) → Q (.ref (s.heap.objs.size + 4)) { s with heap := h' }) :
    wpAny (model prog w) A (call (.type "zip") [.ref l1, .ref l2]) Q E s := by
  refine callType_new F.called_zip (by decide) (F.typeCall_zip_2 _ _) (F.newCall_zip_2 _ _) (fun obj => F.args_object_init_3 obj _ _) F.entry_zip_new (zipA_new c d l1 l2 xs ys) ⟨m1, m2, ?_⟩
  have n1 : (zh1 c s.heap l1).objs.size = s.heap.objs.size + 1 := Heap.size_push ..
  have n2 : (zh2 c d s.heap l1 l2).objs.size = s.heap.objs.size + 2 := by rw [Heap.size_push, n1]
  have n3 : (zh3 c d s.heap l1 l2).objs.size = s.heap.objs.size + 3 := by rw [Heap.size_push, n2]
  have n4 : (zh4 c d s.heap l1 l2).objs.size = s.heap.objs.size + 4 := by rw [Heap.size_push, n3]
  have up1 : ∀ {h : Heap} {o u : Obj} {e : Addr}, h.get? e = some u → (h.push o).get? e = some u := fun q => Heap.get?_push_of_some _ q
  have g5 : (zh5 c d s.heap l1 l2).get? (zh4 c d s.heap l1 l2).objs.size = some _ := Heap.get?_push_size _ rfl
  have g4 : (zh5 c d s.heap l1 l2).get? (zh3 c d s.heap l1 l2).objs.size = some _ := up1 (Heap.get?_push_size _ rfl)
  have g3 : (zh5 c d s.heap l1 l2).get? (zh2 c d s.heap l1 l2).objs.size = some _ := up1 (up1 (Heap.get?_push_size _ rfl))
  have g2 : (zh5 c d s.heap l1 l2).get? (zh1 c s.heap l1).objs.size = some (itO d l2) := up1 (up1 (up1 (Heap.get?_push_size _ (by cases d <;> rfl))))
  have g1 : (zh5 c d s.heap l1 l2).get? s.heap.objs.size = some (itO c l1) := up1 (up1 (up1 (up1 (Heap.get?_push_size _ (by cases c <;> rfl)))))
  show _ ∧ _
  rw [n2, n3, n4] at g5
  rw [n1, n2] at g3
  rw [n3] at g4
  rw [n1] at g2
  rw [n4]
  exact ⟨⟨_, g5, rfl⟩, h _ g5 g3 g4 (itO_at g1) (itO_at g2) fun e o q => up1 (up1 (up1 (up1 (up1 q))))⟩
end
def SqE (K : PySem.W.Frag) (H : Hp) (a : Addr) (xs : List V) : Bool → Prop
  | false => SqL K H a xs
  | true => SqT K H a xs
theorem SqE.mono {K : PySem.W.Frag} {H H' : Hp} {a : Addr} {xs : List V} {b : Bool} (e : Ext H H') (h : SqE K H a xs b) : SqE K H' a xs b := by
  cases b
  · exact e.seqL h
  · exact e.seqT h
theorem Inv.sqe {X : Cx} {pins : List (Addr × Obj)} {σ : St} {H : Hp} {s : Shared} {a : Addr} {xs : List V} {b : Bool} (I : Inv X pins σ H s) (h : SqE X.K H a xs b) : ∃ its : List Value, Vals xs its ∧ SqA b s.heap a its.toArray ∧ xs.length ≤ sizeLine := by
  cases b
  · obtain ⟨its, r, p, z⟩ := I.list h; exact ⟨its, r, p.isList, z⟩
  · obtain ⟨its, r, p, z⟩ := I.tuple h; exact ⟨its, r, p, z⟩
theorem Inv.sqe_inj {X : Cx} {pins : List (Addr × Obj)} {σ : St} {H : Hp} {s : Shared} {a : Addr} {xs ys : List V} {b : Bool} (I : Inv X pins σ H s) (h : SqE X.K H a xs b) (h' : SqE X.K H a ys b) : xs = ys := by
  cases b
  · exact I.list_inj h h'
  · exact I.tuple_inj h h'
def Itz2 (K : PySem.W.Frag) (c d : Bool) (p q : Addr) : It :=
  ⟨fun i H => ∃ xs ys, SqE K H p xs c ∧ SqE K H q ys d ∧ i < xs.length ∧ i < ys.length,
   fun i H x H' => ∃ r u v, H r = none ∧ x = .ref r ∧ H' = upd H r (.tup [u, v]) ∧ ∀ xs ys, SqE K H p xs c → SqE K H q ys d → xs[i]? = some u ∧ ys[i]? = some v,
   fun i H => ∃ xs ys, SqE K H p xs c ∧ SqE K H q ys d ∧ (xs.length ≤ i ∨ ys.length ≤ i)⟩
def zst (c d : Bool) (z TI TO i1 i2 l1 l2 : Addr) (i : Nat) (h : Heap) : Prop := IsZip h z TI TO .none ∧ IsPair h TI (.ref i1) (.ref i2) ∧ (∃ a b, IsPair h TO a b) ∧ ItA c h i1 l1 i ∧ ItA d h i2 l2 i
theorem turn_zip2 {P : Program} {w : World} {K : PySem.W.Frag} {es : List Expr} {kx : Nat} {tp : Pos} {cc dd : Bool} {z TI TO i1 i2 l1 l2 : Addr} (D : ZipApart z TI TO i1 i2 l1 l2) :
    Turn P w K (.Tuple es kx tp) (Itz2 K cc dd l1 l2) [z, TI, TO, i1, i2] z (zst cc dd z TI TO i1 i2 l1 l2) where
  mem := by simp
  obj := fun i h st b hb => by
    obtain ⟨hz, hTI, ⟨a, c, hTO⟩, s1, s2⟩ := st
    simp only [List.mem_cons, List.mem_nil_iff, or_false] at hb
    rcases hb with rfl | rfl | rfl | rfl | rfl
    · exact ⟨_, hz, fun v q => by cases q⟩
    · exact ⟨_, hTI, fun v q => by cases q⟩
    · exact ⟨_, hTO, fun v q => by cases q⟩
    · exact s1.ex
    · exact s2.ex
  keep := fun i h h' st k => by
    obtain ⟨hz, hTI, ⟨a, c, hTO⟩, s1, s2⟩ := st
    exact ⟨k z (by simp) _ hz, k TI (by simp) _ hTI, ⟨a, c, k TO (by simp) _ hTO⟩, s1.at fun o e => k i1 (by simp) o e, s2.at fun o e => k i2 (by simp) o e⟩
  item := by
    intro X hP hw hK hc i pins s σ H E I hf st hg
    subst hP hw hK
    obtain ⟨xs, ys, hx, hy, lx, ly⟩ := hg
    obtain ⟨hz, hTI, ⟨a, c, hTO⟩, s1, s2⟩ := id st
    obtain ⟨us, ru, pu, zu⟩ := I.sqe hx
    obtain ⟨ws, rw', pw, zw⟩ := I.sqe hy
    obtain ⟨u, eu, r1⟩ := ru.get (List.getElem?_eq_getElem lx)
    obtain ⟨v, ev, r2⟩ := rw'.get (List.getElem?_eq_getElem ly)
    refine zipA_item D hz hTI hTO s1 s2 pu pw (x := u) (y := v) (by simpa using eu) (by simpa using ev) fun h1 z1 t1 j1 j2 np kk => ⟨_, rfl, ?_⟩
    refine wpAny_letOwnedTupleGo_zip z1 fun h2 z2 sb => ?_
    have nT : s.heap.objs.size ≠ z := Nat.ne_of_gt (Heap.lt_size hz)
    have kk2 : ∀ b o, b ∉ [z, TI, TO, i1, i2] → s.heap.get? b = some o → h2.get? b = some o := fun b o hb e => by
      simp only [List.mem_cons, List.mem_nil_iff, or_false, not_or] at hb
      exact sb.extBut b o hb.1 (kk b o hb.1 hb.2.2.1 hb.2.2.2.1 hb.2.2.2.2 e)
    have np2 : IsPair h2 s.heap.objs.size u v := sb.extBut _ _ nT np
    have I2 := I.turnLaid (t' := s.toks) (a := s.heap.objs.size) (o := .tup [xs[i], ys[i]]) kk2 hf (Nat.le_refl _) (show ObjOk X.prog X.w _ h2 _ (.tup [xs[i], ys[i]]) from ⟨by show 2 ≤ sizeLine; rw [sizeLine_eq]; decide, [u, v], .cons r1 (.cons r2 .nil), ⟨⟨_, np2, rfl, 0, rfl⟩, _, np2, rfl⟩⟩)
    refine ⟨.ref s.heap.objs.size, _, I2, rfl, ⟨_, _, _, I.hok.fresh (Nat.le_refl _), rfl, rfl, fun xs' ys' e1 e2 => ?_⟩, ?_, fun b hb => ?_⟩
    · rw [I.sqe_inj e1 hx, I.sqe_inj e2 hy]
      exact ⟨List.getElem?_eq_getElem lx, List.getElem?_eq_getElem ly⟩
    · exact ⟨z2, sb.extBut _ _ D.TIz (kk TI _ D.TIz D.TITO D.TIi1 D.TIi2 hTI), ⟨_, _, sb.extBut _ _ D.TOz t1⟩, j1.at fun o e => sb.extBut _ o D.i1z e, j2.at fun o e => sb.extBut _ o D.i2z e⟩
    · rw [upd_ne (fun q => ?_)]
      · exact (hf b hb).1
      · have lt : b < s.heap.objs.size := by
          simp only [List.mem_cons, List.mem_nil_iff, or_false] at hb
          rcases hb with rfl | rfl | rfl | rfl | rfl
          · exact Heap.lt_size hz
          · exact Heap.lt_size hTI
          · exact Heap.lt_size hTO
          · exact s1.lt
          · exact s2.lt
        exact absurd lt (by rw [q]; exact Nat.lt_irrefl _)
  done := by
    intro X hP hw hK hc i pins s σ H E I hf st hg
    subst hP hw hK
    obtain ⟨xs, ys, hx, hy, hl⟩ := hg
    obtain ⟨hz, hTI, ⟨a, c, hTO⟩, s1, s2⟩ := st
    obtain ⟨us, ru, pu, zu⟩ := I.sqe hx
    obtain ⟨ws, rw', pw, zw⟩ := I.sqe hy
    have l1 := ru.length
    have l2 := rw'.length
    refine zipA_end (I.ok.hd hc) D hz hTI hTO s1 s2 pu pw ?_ fun h1 kk => ⟨rfl, I.turns (t' := s.toks) (ch := [z, TI, TO, i1, i2]) (fun b o hb e => ?_) hf⟩
    · rcases hl with q | q
      · exact .inl (by simp; omega)
      · exact .inr (by simp; omega)
    · simp only [List.mem_cons, List.mem_nil_iff, or_false, not_or] at hb
      exact kk b o hb.1 hb.2.2.1 hb.2.2.2.1 hb.2.2.2.2 e
  self := fun _ _ _ _ _ st h => wpAny_pyIter_zip st.1 h
section
variable {X : Cx}
def iZip2 (K : PySem.W.Frag) (ta : TA) : TI := fun σ H R => ta σ H fun vs H1 => ∃ p q xs ys c d, vs = [.ref p, .ref q] ∧ SqE K H1 p xs c ∧ SqE K H1 q ys d ∧ R (Itz2 K c d p q) H1
theorem pi_zip2 {es : List Expr} {kx : Nat} {tp : Pos} {a b : Expr} {ta : TA} {p pos : Pos} (hg : Gl X "zip") (hm : X.mg "zip" = none) (ha : PA X [a, b] ta) (hs : starEach [a, b] X.env = [(false, eval a X.env), (false, eval b X.env)] := by rfl) (hs2 : starEach [b] X.env = [(false, eval b X.env)] := by rfl) :
    PI X (.Tuple es kx tp) (.Call (.Name "zip" p) [a, b] [] pos) (iZip2 X.K ta) := by
  intro pins s σ H R I h
  refine Call_ (ld_blt I hg hm boot_zip (PyProof.Rows.callWith_type1 (thn (ha pos pins s σ H _ I h) fun us s1 ⟨vs, H1, I1, r1, q1⟩ => ?_) (by rw [hs, hs2]) (by rw [hs2]; rfl)))
  obtain ⟨p1, p2, xs, ys, c, d, e, hx, hy, q⟩ := q1
  subst e
  obtain ⟨u, v, rfl, ru, rv⟩ := vals2 r1
  cases ru
  cases rv
  obtain ⟨i1, ri1, pl1, z1⟩ := I1.sqe hx
  obtain ⟨i2, ri2, pl2, z2⟩ := I1.sqe hy
  refine call_zipA pl1 pl2 fun h' hz hTI hTO j1 j2 hk => ?_
  have I2 : Inv X pins σ H1 { s1 with heap := h' } := I1.kept (t' := s1.toks) hk
  refine wpAny_pyIter_zip (s := { s1 with heap := h' }) hz ⟨_, [s1.heap.objs.size + 4, s1.heap.objs.size + 2, s1.heap.objs.size + 3, s1.heap.objs.size, s1.heap.objs.size + 1], _, _, H1, rfl, I2, turn_zip2 (zipApart_new pl1.lt pl2.lt), ⟨hz, hTI, ⟨_, _, hTO⟩, j1, j2⟩, fun b hb => ?_, q⟩
  have hb' : s1.heap.objs.size ≤ b := by
    simp only [List.mem_cons, List.mem_nil_iff, or_false] at hb
    rcases hb with rfl | rfl | rfl | rfl | rfl <;> omega
  exact I1.fpOk hb' (I1.hok.fresh hb')
end
theorem for_zip2 {K : PySem.W.Frag} {p q : Addr} {c d : Bool} {xs ys : List V} {g : TG} {tb : TS} {D : Ends} {σ : St} {H : Hp} (Pv : Nat → St → Hp → Prop) (hl : xs.length = ys.length) (h0 : Pv 0 σ H) (hq : ∀ i σ H, i ≤ xs.length → Pv i σ H → SqE K H p xs c ∧ SqE K H q ys d)
    (hs : ∀ i x y σ H r, xs[i]? = some x → ys[i]? = some y → Pv i σ H → H r = none → g (.ref r) σ (upd H r (.tup [x, y])) fun σ2 H2 => tb { D with nx := Pv (i + 1), ct := Pv (i + 1), bk := D.nx } σ2 H2) (hd : ∀ σ H, Pv xs.length σ H → D.nx σ H) :
    ∃ W : Nat → Nat → St → Hp → Prop, (∃ m, W 0 m σ H) ∧ ∀ i m σ H, W i m σ H →
      ((Itz2 K c d p q).stop i H ∧ D.nx σ H) ∨ ((Itz2 K c d p q).go i H ∧ ∃ N : St → Hp → Prop, (∀ σ' H', N σ' H' → ∃ m', m' < m ∧ W (i + 1) m' σ' H') ∧ ∀ x H', (Itz2 K c d p q).yld i H x H' → g x σ H' fun σ2 H2 => tb { D with nx := N, ct := N, bk := D.nx } σ2 H2) := by
  refine ⟨fun i m σ H => m = xs.length - i ∧ i ≤ xs.length ∧ Pv i σ H, ⟨xs.length, by simp, Nat.zero_le _, h0⟩, ?_⟩
  rintro i m σ H ⟨rfl, hi, pv⟩
  obtain ⟨q1, q2⟩ := hq i σ H hi pv
  by_cases hlt : i < xs.length
  · refine .inr ⟨⟨xs, ys, q1, q2, hlt, by omega⟩, Pv (i + 1), fun σ' H' p' => ⟨xs.length - (i + 1), by omega, rfl, hlt, p'⟩, fun x H' y => ?_⟩
    obtain ⟨r, u, v, n, rfl, rfl, y⟩ := y
    obtain ⟨e1, e2⟩ := y xs ys q1 q2
    exact hs i u v σ _ r e1 e2 pv n
  · have e : i = xs.length := by omega
    subst e
    exact .inl ⟨⟨xs, ys, q1, q2, .inl (Nat.le_refl _)⟩, hd σ H pv⟩
theorem comp_zip2 {K : PySem.W.Frag} {ts : List TT} {te : TE} {acc : Addr} {fr : St} {H1 : Hp} {R : Hp → Prop} {xs zs : List V} {p q : Addr} {c d : Bool} {u v : Option V} (hx : SqE K H1 p xs c) (hy : SqE K H1 q zs d) (hl : xs.length = zs.length) (hz : xs.length ≤ 1000000) (hn : H1 acc = none) (Pv : Nat → List V → Hp → Prop) (h0 : Pv 0 [] H1) (kp : ∀ i ys H H', Kp H H' → Pv i ys H → Pv i ys H') (len : ∀ i ys H, i ≤ xs.length → Pv i ys H → ys.length ≤ i)
    (turn : ∀ i x z ys H H', xs[i]? = some x → zs[i]? = some z → Ext H1 H → Ext H H' → Pv i ys H → Turned ts te (Pv (i + 1)) ys H (some x :: some z :: fr) H')
    (fin : ∀ ys H, Ext H1 H → H acc = some (.lst ys) → Pv xs.length ys H → R H) : rComp (Itz2 K c d p q) (gTup K 2 (gCons (gName 0) (gCons (gName 1) gNil))) ts te acc (u :: v :: fr) H1 R := by
  refine comp_gen xs.length hz hn (fun σ => ∃ u v, σ = u :: v :: fr) Pv ⟨u, v, rfl⟩ h0 kp (fun i H hi e => ⟨xs, zs, hx.mono e, hy.mono e, hi, by omega⟩) (fun H e => ⟨xs, zs, hx.mono e, hy.mono e, .inl (Nat.le_refl _)⟩) len ?_ fin
  rintro i σ ys H x H' G hi e ⟨u, v, rfl⟩ pv ⟨r, y1, y2, nr, rfl, rfl, y⟩ hG
  obtain ⟨e1, e2⟩ := y xs zs (hx.mono e) (hy.mono e)
  exact ⟨r, [y1, y2], rfl, SqT.of upd_same, rfl, y1, [y2], rfl, y2, [], rfl, rfl, hG _ _ ⟨_, _, rfl⟩ (turn i y1 y2 ys _ _ e1 e2 e (ext_upd nr) pv)⟩
section
variable {X : Cx}
def rAll (K : PySem.W.Frag) : List V → Hp → VK → Prop := fun xs H Q => ∃ (p : Addr) (bs : List Bool), xs = [.ref p] ∧ SqL K H p (bs.map V.bl) ∧ Q (.bl (bs.all id)) H
theorem bools_of : ∀ {bs : List Bool} {us : List Value}, Vals (bs.map V.bl) us → us = bs.map Value.bool
  | [], us, r => by cases r; rfl
  | b :: bs, us, r => by
    cases r with
    | cons r1 r2 => rw [bools_of r2, show _ = Value.bool b from r1]; rfl
theorem all_range : ∀ bs : List Bool, (List.range bs.length).all (fun i => bs.getD i true) = bs.all id := by
  intro bs
  rw [Bool.eq_iff_iff, List.all_eq_true, List.all_eq_true]
  constructor
  · intro h x hx
    obtain ⟨i, hi, rfl⟩ := List.getElem_of_mem hx
    have := h i (List.mem_range.mpr hi)
    rwa [List.getD_eq_getElem?_getD, List.getElem?_eq_getElem hi] at this
  · intro h i hi
    have hi' := List.mem_range.mp hi
    rw [List.getD_eq_getElem?_getD, List.getElem?_eq_getElem hi']
    exact h _ (List.getElem_mem hi')
theorem cAll (hc : X.calm = true) : CallR X (.builtin "all") (rAll X.K) := by
  intro pins s σ H xs us Q I r h
  obtain ⟨p, bs, rfl, hq, q⟩ := h
  obtain ⟨u, rfl, rx⟩ := vals1 r
  cases rx
  obtain ⟨its, r', pl, hz⟩ := I.list hq
  have e := bools_of r'
  subst e
  refine call_all_walk (wpAny_pyIter_list pl.isList ?_)
  have ne : p ≠ s.heap.objs.size := by obtain ⟨_, e, _⟩ := pl.isList; exact Nat.ne_of_lt (Heap.lt_size e)
  refine ⟨s.heap.objs.size, _, _, _, _, _, fun i => bs.getD i true, rfl, Walks.list (A := X.A.in1) (I.ok.hd hc) _ p ne (bs.map Value.bool).toArray, ⟨⟨_, Heap.get?_push_size _ rfl, rfl, rfl⟩, Heap.IsList.push pl.isList _⟩, fun i v s' Q' E' hv hQ => ?_, fun h' tk hk => ?_⟩
  · have hv' : (bs.map Value.bool)[i]? = some v := by simpa using hv
    rw [List.getElem?_map] at hv'
    cases e : bs[i]? with
    | none => rw [e] at hv'; cases hv'
    | some b =>
      rw [e] at hv'
      cases hv'
      refine wpAny_truthy_bool ?_
      have : bs.getD i true = b := by rw [List.getD_eq_getElem?_getD, e]; rfl
      have hQ' : Q' (bs.getD i true) s' := hQ
      rw [this] at hQ'
      exact hQ'
  · refine ⟨.bl (bs.all id), H, I.kept (t' := tk) fun b o q => hk b o (by simp; exact Nat.ne_of_lt (Heap.lt_size q)) (Heap.get?_push_of_some _ q), ?_, q⟩
    show Value.bool _ = Value.bool _
    rw [← all_range bs]
    simp
end
mutual
def D.py : D → PyData
  | .non => .none | .bl b => .bool b | .int i => .int i | .str x => .str x | .tup l => .tuple (D.pyL l) | .lst l => .list (D.pyL l) | .dct => .dict []
def D.pyL : List D → List PyData
  | [] => []
  | d :: r => d.py :: D.pyL r
def D.eqOk : D → Bool
  | .str x => PyData.strOk x
  | .tup l => D.eqOkL l
  | .lst l => D.eqOkL l
  | .dct => false
  | _ => true
def D.eqOkL : List D → Bool
  | [] => true
  | d :: r => d.eqOk && D.eqOkL r
end
mutual
theorem D.canLay : ∀ d : D, d.eqOk = true → d.py.canLay0 = true
  | .non, _ => by simp [D.py, PyData.canLay0]
  | .bl _, _ => by simp [D.py, PyData.canLay0]
  | .int _, _ => by simp [D.py, PyData.canLay0]
  | .str x, h => by simp only [D.eqOk] at h; simpa [D.py, PyData.canLay0] using h
  | .tup l, h => by simp only [D.eqOk] at h; simpa [D.py, PyData.canLay0] using D.canLayL l h
  | .lst l, h => by simp only [D.eqOk] at h; simpa [D.py, PyData.canLay0] using D.canLayL l h
  | .dct, h => by simp [D.eqOk] at h
theorem D.canLayL : ∀ l : List D, D.eqOkL l = true → PyData.canLayAll0 (D.pyL l) = true
  | [], _ => by simp [D.pyL, PyData.canLayAll0]
  | d :: r, h => by
    simp only [D.eqOkL, Bool.and_eq_true] at h
    simp [D.pyL, PyData.canLayAll0, D.canLay d h.1, D.canLayL r h.2]
theorem D.pyDepth : ∀ d : D, d.py.depth ≤ d.depth + 1
  | .non => by simp [D.py, PyData.depth]
  | .bl _ => by simp [D.py, PyData.depth]
  | .int _ => by simp [D.py, PyData.depth]
  | .str _ => by simp [D.py, PyData.depth]
  | .tup l => by have := D.pyDepthL l; simp only [D.py, PyData.depth, D.depth]; omega
  | .lst l => by have := D.pyDepthL l; simp only [D.py, PyData.depth, D.depth]; omega
  | .dct => by simp [D.py, PyData.depth, PyData.depthKv, D.depth]
theorem D.pyDepthL : ∀ l : List D, PyData.depthAll (D.pyL l) ≤ D.depthL l + 1
  | [] => by simp [D.pyL, PyData.depthAll]
  | d :: r => by have a := D.pyDepth d; have b := D.pyDepthL r; simp only [D.pyL, PyData.depthAll, D.depthL]; omega
end
section
variable {X : Cx} {pins : List (Addr × Obj)} {σ : St} {H : Hp} {s : Shared}
mutual
theorem reads_of (I : Inv X pins σ H s) : ∀ (d : D) {v : V} {u : Value}, Rep H d v → RelV v u → d.eqOk = true → ∃ as, Reads s.heap u d.py as
  | .non, v, u, h, r, _ => by unfold Rep at h; subst h; cases (show u = Value.none from r); exact ⟨_, .none⟩
  | .bl b, v, u, h, r, _ => by unfold Rep at h; subst h; cases (show u = Value.bool b from r); exact ⟨_, .bool b⟩
  | .int i, v, u, h, r, _ => by unfold Rep at h; subst h; obtain ⟨t, rfl⟩ := r; exact ⟨_, .int i t⟩
  | .str x, v, u, h, r, _ => by unfold Rep at h; subst h; obtain ⟨t, rfl⟩ := r; exact ⟨_, .str x t⟩
  | .tup l, v, u, h, r, ok => by
    unfold Rep at h
    obtain ⟨p, xs, rfl, hp, hl⟩ := h
    cases (show u = Value.ref p from r)
    obtain ⟨its, rv, ht, hz⟩ := I.tuple (SqT.of (K := X.K) hp)
    obtain ⟨as, ra⟩ := readsL_of I l hl rv (by simpa [D.eqOk] using ok)
    obtain ⟨o, e, c, n, dt⟩ := ht
    exact ⟨as, .tuple e c dt (by simpa using ra)⟩
  | .lst l, v, u, h, r, ok => by
    unfold Rep at h
    obtain ⟨p, xs, rfl, hp, hl⟩ := h
    cases (show u = Value.ref p from r)
    obtain ⟨its, rv, ht, hz⟩ := I.list (SqL.of (K := X.K) hp)
    obtain ⟨as, ra⟩ := readsL_of I l hl rv (by simpa [D.eqOk] using ok)
    obtain ⟨o, e, c, n, dt⟩ := ht.isList
    exact ⟨_, .list e c dt (by simpa using ra)⟩
  | .dct, v, u, h, r, ok => by simp [D.eqOk] at ok
theorem readsL_of (I : Inv X pins σ H s) : ∀ (l : List D) {vs : List V} {us : List Value}, RepL H l vs → Vals vs us → D.eqOkL l = true → ∃ as, ReadsAll s.heap us (D.pyL l) as
  | [], vs, us, h, r, _ => by unfold RepL at h; subst h; cases r; exact ⟨_, .nil⟩
  | d :: l, vs, us, h, r, ok => by
    unfold RepL at h
    obtain ⟨x, t, rfl, hd, hl⟩ := h
    simp only [D.eqOkL, Bool.and_eq_true] at ok
    cases r with
    | cons r1 r2 =>
      obtain ⟨as, a1⟩ := reads_of I d hd r1 ok.1
      obtain ⟨bs, b1⟩ := readsL_of I l hl r2 ok.2
      exact ⟨_, .cons a1 b1⟩
end
def eqD (a b : D) : Bool := PyData.eqv a.py b.py
def rEqD (neg : Bool) : R2 := fun x y H Q => ∃ a b, Rep H a x ∧ Rep H b y ∧ a.eqOk = true ∧ b.eqOk = true ∧ a.depth ≤ 20 ∧ Q (.bl (if neg then !eqD a b else eqD a b)) H
def rEqU : R2 := fun x y H Q => rEq x y H Q ∨ rEqD false x y H Q
def rNeU : R2 := fun x y H Q => rNe x y H Q ∨ rEqD true x y H Q
theorem op_eqD {k : Nat} (hr : Room k X.A) : OpR X (compareOp .Eq) (rEqD false) := by
  intro pins s σ H x y v u Q I rx ry h
  obtain ⟨a, b, ha, hb, oa, ob, hd, q⟩ := h
  obtain ⟨as, r1⟩ := reads_of I a ha rx oa
  obtain ⟨bs, r2⟩ := reads_of I b hb ry ob
  have h1 := D.pyDepth a
  exact SeqAt.compareEq_reads r1 r2 (D.canLay a oa) (D.canLay b ob) (by have := hr.units; omega) ⟨.bl (eqD a b), H, I, rfl, q⟩
theorem oEq {k : Nat} (hr : Room k X.A) : OpR X (compareOp .Eq) rEqU := op_eq.or (op_eqD hr)
end
section
variable {X : Cx}
def rCatT2 (K : PySem.W.Frag) : R2 := fun x y H Q => ∃ a b xs ys, x = .ref a ∧ y = .ref b ∧ SqT K H a xs ∧ SqT K H b ys ∧ xs.length + ys.length ≤ 1000000 ∧
  (xs = [] → Q (.ref b) H) ∧ (xs ≠ [] → ys = [] → Q (.ref a) H) ∧ (xs ≠ [] → ys ≠ [] → ∀ p, H p = none → Q (.ref p) (upd H p (.tup (xs ++ ys))))
theorem op_catT2 : OpR X (binaryOp .Add) (rCatT2 X.K) := by
  intro pins s σ H x y v u Q I rx ry h
  obtain ⟨a, b, xs, ys, rfl, rfl, ha, hb, hl, q0, q1, q2⟩ := h
  cases rx
  cases ry
  obtain ⟨is1, r1, t1, z1⟩ := I.tuple ha
  obtain ⟨is2, r2, t2, z2⟩ := I.tuple hb
  have l1 := r1.length
  have l2 := r2.length
  have hz : is1.length + is2.length ≤ sizeLine := by rw [sizeLine_eq]; omega
  by_cases e : is1 = []
  · subst e
    have ex : xs = [] := List.length_eq_zero_iff.mp (by simpa using l1)
    obtain ⟨⟨cls, dd, data, sl⟩, ho, hc, n, hd⟩ := id t1
    obtain ⟨⟨cls2, dd2, data2, sl2⟩, ho2, hc2, n2, hd2⟩ := id t2
    simp only at hc hd hc2 hd2
    subst hc hd hc2 hd2
    exact concat_meets ⟨_, ho, rfl⟩ ⟨_, ho2, rfl⟩ noFill_tuple_add seq_tuple_add PySem.F.slot_tuple_add PySem.F.entry_tuple_add (PySem.F.args_tuple_add_2 _ _)
      (tuple_addW0 a b _ is2.toArray n n2 dd dd2 sl sl2 (by simp)) ⟨ho, ho2, ⟨.ref b, H, I, rfl, q0 ex⟩⟩
  · have ex : xs ≠ [] := fun z => e (List.length_eq_zero_iff.mp (by rw [← l1, z]; rfl))
    refine HT.cat_tup t1 t2 e (fun w => ⟨.ref a, H, I, rfl, q1 ex (List.length_eq_zero_iff.mp (by rw [l2, w]; rfl))⟩) (fun w => ?_) hz
    have ey : ys ≠ [] := fun z => w (List.length_eq_zero_iff.mp (by rw [← l2, z]; rfl))
    refine ⟨.ref s.heap.objs.size, _, I.laid (t' := s.toks) (fun b o e => Heap.get?_push_of_some _ e) (Nat.le_refl _) (show ObjOk X.prog X.w _ _ _ (.tup (xs ++ ys)) from ⟨by rw [List.length_append]; omega, is1 ++ is2, r1.append r2, TupN.new _ _⟩), rfl, q2 ex ey _ (I.hok.fresh (Nat.le_refl _))⟩
def rAddV (K : PySem.W.Frag) : R2 := fun x y H Q => (rI0 (fun i j => .int (i + j)) x y H Q ∨ rCat x y H Q) ∨ rCatT2 K x y H Q
theorem oAddV : OpR X (binaryOp .Add) (rAddV X.K) := (op_add.or op_cat).or op_catT2
end
section
variable {K : PySem.W.Frag} {σ : St} {H : Hp} {Q : VK} {D : Ends}
theorem r_addV {i j : Int} (q : Q (.int (i + j)) H) : rAddV K (.int i) (.int j) H Q := .inl (.inl ⟨i, j, rfl, rfl, q⟩)
theorem r_catL {l b : Addr} {xs zs : List V} (h1 : H l = some (.lst xs)) (h2 : H b = some (.lst zs)) (hl : xs.length + zs.length ≤ 1000000) (q : ∀ p H', H p = none → H' p = some (.lst (xs ++ zs)) → Ext H H' → Q (.ref p) H') : rAddV K (.ref l) (.ref b) H Q :=
  .inl (.inr ⟨l, b, xs, zs, rfl, rfl, h1, h2, Nat.le_trans hl (by rw [sizeLine_eq]; decide), fun p n => q p _ n upd_same (ext_upd n)⟩)
theorem r_sl {r : V → Option Int → Option Int → Hp → VK → Prop} {te : TE} {tl th : TO} (q : te σ H fun x H1 => tl σ H1 fun l H2 => th σ H2 fun u H3 => r x l u H3 Q) : tSl r te tl th σ H Q := q
theorem r_nopart {R : Option Int → Hp → Prop} (q : R none H) : tNoPart σ H R := q
def rPart (x : V) (R : Option Int → Hp → Prop) (H : Hp) : Prop := ∃ i, x = .int i ∧ R (some i) H
theorem r_part {te : TE} {R : Option Int → Hp → Prop} (q : te σ H fun x H1 => rPart x R H1) : tPart te σ H R := q
theorem r_partI {i : Int} {R : Option Int → Hp → Prop} (q : R (some i) H) : rPart (.int i) R H := ⟨i, rfl, q⟩
theorem r_slL {p : Addr} {xs : List V} {lo hi : Option Int} (h : H p = some (.lst xs)) (q : ∀ l H', H l = none → H' l = some (.lst (cutV xs lo hi)) → Ext H H' → Q (.ref l) H') : rSlU K (.ref p) lo hi H Q := .inr ⟨p, xs, rfl, SqL.of h, fun l n => q l _ n upd_same (ext_upd n)⟩
theorem r_zip2 {ta : TA} {R : It → Hp → Prop} (q : ta σ H fun vs H1 => ∃ p q xs ys c d, vs = [.ref p, .ref q] ∧ SqE K H1 p xs c ∧ SqE K H1 q ys d ∧ R (Itz2 K c d p q) H1) : iZip2 K ta σ H R := q
theorem r_all {p : Addr} {bs : List Bool} (h : H p = some (.lst (bs.map V.bl))) (q : Q (.bl (bs.all id)) H) : rAll K [.ref p] H Q := ⟨p, bs, rfl, SqL.of h, q⟩
theorem r_eqUI {i j : Int} (q : Q (.bl (decide (i = j))) H) : rEqU (.int i) (.int j) H Q := .inl (r_eqI q)
theorem r_eqUB {i j : Bool} (q : Q (.bl (decide (i = j))) H) : rEqU (.bl i) (.bl j) H Q := .inl (r_eqB q)
theorem r_eqUS {i j : Str} (q : Q (.bl (decide (i = j))) H) : rEqU (.str i) (.str j) H Q := .inl (r_eqS q)
theorem r_eqD {x y : V} {a b : L2.D} (ha : Rep H a x) (hb : Rep H b y) (oa : a.eqOk = true) (ob : b.eqOk = true) (hd : a.depth ≤ 20) (q : Q (.bl (eqD a b)) H) : rEqU x y H Q := .inr ⟨a, b, ha, hb, oa, ob, hd, q⟩
theorem r_tests0 {te : TE} {Y : V → Hp → Prop} {N : Hp → Prop} (q : te σ H Y) : tTests [] σ H fun b H3 => if b = true then te σ H3 Y else N H3 := by
  show (if true = true then te σ H Y else N H)
  rw [if_pos rfl]
  exact q
theorem r_tests1 {t : TT} {R : Bool → Hp → Prop} (q : t σ H fun b H1 => if b = true then R true H1 else R false H1) : tTests [t] σ H R := q
end
theorem Rep.tupInts {H : Hp} {p : Addr} {ns : List Int} (h : H p = some (.tup (ns.map V.int))) : Rep H (.tup (ns.map D.int)) (.ref p) := Rep.tupI h (RepL.ints ns)
theorem Rep.lstInts {H : Hp} {p : Addr} {ns : List Int} (h : H p = some (.lst (ns.map V.int))) : Rep H (.lst (ns.map D.int)) (.ref p) := Rep.lstI h (RepL.ints ns)
theorem get_int {ns : List Int} {i : Nat} {x : V} (h : (ns.map V.int)[i]? = some x) : ∃ n, ns[i]? = some n ∧ x = .int n := by
  rw [List.getElem?_map] at h
  cases e : ns[i]? with
  | none => rw [e] at h; cases h
  | some n => rw [e] at h; cases h; exact ⟨n, rfl, rfl⟩
theorem atI_ints {ns : List Int} {k : Int} (h0 : 0 ≤ k) (h1 : k < ns.length) : atI (ns.map V.int) k = some (.int (ns.getD k.toNat 0)) := by
  refine atI_int h0 ?_
  rw [List.getElem?_map, List.getElem?_eq_getElem (by omega), List.getD_eq_getElem?_getD, List.getElem?_eq_getElem (by omega)]
  rfl
theorem sorted_uniq {a b c : List Int} (h1 : a.Perm c) (h2 : b.Perm c) (s1 : a.Pairwise (· ≤ ·)) (s2 : b.Pairwise (· ≤ ·)) : a = b :=
  List.Perm.eq_of_pairwise (fun x y _ _ h1 h2 => Int.le_antisymm h1 h2) s1 s2 (h1.trans h2.symm)
section
variable {X : Cx}
def IsMin (m : Int) (ns : List Int) : Prop := m ∈ ns ∧ ∀ x ∈ ns, m ≤ x
theorem IsMin.uniq {a b : Int} {ns : List Int} (h1 : IsMin a ns) (h2 : IsMin b ns) : a = b := by
  have := h1.2 b h2.1
  have := h2.2 a h1.1
  omega
def mn : List Int → Int
  | [] => 0
  | [x] => x
  | x :: y :: r => min x (mn (y :: r))
theorem mn_is : ∀ {ns : List Int}, ns ≠ [] → IsMin (mn ns) ns
  | [], h => (h rfl).elim
  | [x], _ => ⟨List.mem_singleton.mpr rfl, fun y hy => by rw [List.mem_singleton.mp hy]; exact Int.le_refl _⟩
  | x :: y :: r, _ => by
    obtain ⟨h1, h2⟩ := mn_is (ns := y :: r) (by simp)
    show min x (mn (y :: r)) ∈ x :: y :: r ∧ ∀ z ∈ x :: y :: r, min x (mn (y :: r)) ≤ z
    refine ⟨?_, fun z hz => ?_⟩
    · by_cases c : x ≤ mn (y :: r)
      · rw [Int.min_eq_left c]; exact List.mem_cons_self
      · rw [Int.min_eq_right (by omega)]; exact List.mem_cons_of_mem _ h1
    · rcases List.mem_cons.mp hz with rfl | hz
      · exact Int.min_le_left _ _
      · exact Int.le_trans (Int.min_le_right _ _) (h2 z hz)
def rMin1 (K : PySem.W.Frag) : List V → Hp → VK → Prop := fun xs H Q => ∃ (p : Addr) (ns : List Int), xs = [.ref p] ∧ SqL K H p (ns.map V.int) ∧ ns ≠ [] ∧ ∀ m, IsMin m ns → Q (.int m) H
theorem cMin1 (hc : X.calm = true) : CallR X (.builtin "min") (rMin1 X.K) := by
  intro pins s σ H xs us Q I r h
  obtain ⟨p, ns, rfl, hq, hne, q⟩ := h
  obtain ⟨u, rfl, rx⟩ := vals1 r
  cases rx
  obtain ⟨its, r', pl, hz⟩ := I.list hq
  have hi : IntsAre its ns := intsAre_of r'
  obtain ⟨ys, e⟩ := hi.allInts.items
  have e2 : numsOf its = ns := hi.numsOf
  have e3 := nums_intItems (xs := ys)
  rw [← e] at e3
  have e4 : ys.toList.map (·.1) = ns := by rw [← e3]; exact e2
  have hy : ys.size = ns.length := by rw [← e4]; simp
  have h0 : 0 < ns.length := List.length_pos_iff.mpr hne
  refine min_intList (I.ok.hd hc) (xs := ys) (by rw [← e]; exact pl.isList) (by omega) fun v h' tk hv hk => ?_
  obtain ⟨t, rfl⟩ := intItems_at hv
  obtain ⟨b1, b2⟩ := argBest_lt (numAt ys) (ys.size - 1)
  generalize argBest (fun i j => decide (numAt ys i < numAt ys j)) (ys.size - 1) = b at *
  have at_ : ∀ j, numAt ys j = ns.getD j 0 := fun j => by rw [numAt_eq, e4]
  refine ⟨.int (numAt ys b), H, I.kept hk, ⟨t, rfl⟩, q _ ⟨?_, fun x hx => ?_⟩⟩
  · have hb : b < ns.length := by omega
    rw [at_, List.getD_eq_getElem?_getD, List.getElem?_eq_getElem hb]
    exact List.getElem_mem hb
  · obtain ⟨j, hj, rfl⟩ := List.getElem_of_mem hx
    have := b2 j (by omega)
    rw [at_ j, List.getD_eq_getElem?_getD, List.getElem?_eq_getElem hj] at this
    exact this
def rIndex : V → List V → Hp → VK → Prop := fun x vs H Q => ∃ (l : Addr) (ns : List Int) (k : Int), x = .ref l ∧ vs = [.int k] ∧ H l = some (.lst (ns.map V.int)) ∧ k ∈ ns ∧ ns.length ≤ 1000000 ∧ Q (.int (ns.idxOf k)) H
theorem mt_index : MtM X "list.index" rIndex := by
  intro pins s σ H x vs v us Q I rx rv h
  obtain ⟨l, ns, k, rfl, rfl, hH, hk, hz, q⟩ := h
  cases rx
  obtain ⟨u, rfl, ru⟩ := rv.one
  obtain ⟨t, rfl⟩ := ru
  obtain ⟨z, its, n, r, hl, e⟩ := I.lstM hH
  have hi : IntsAre its ns := intsAre_of r
  have hn := hi.length
  have hj : ns.idxOf k < ns.length := List.idxOf_lt_length_iff.mpr hk
  have hs : its.toArray.size = ns.length := by rw [List.size_toArray, hn]
  refine call_meets F.slot_list_index ⟨_, e, rfl⟩ F.entry_list_index (F.args_list_index_2 _ _) (SeqAt.list_indexAt l its.toArray n none #[] (.int k t) (isInt k) (ns.idxOf k) (by omega) (by omega) ?a ?b) ⟨e, ?c, ?d⟩
  case a =>
    refine (isInt_at k hi _ (by omega) hj).trans ?_
    rw [List.getElem_idxOf hj]
    exact beq_self_eq_true k
  case b =>
    intro j h1 h2
    refine (isInt_at k hi j (by rw [hn]; omega) (by omega)).trans ?_
    exact List.not_of_lt_findIdx h2
  case c =>
    intro y hy
    exact (eq_isInt k t hi y (by simpa using hy)).at _ _
  case d => exact ⟨.int (ns.idxOf k : Nat), H, I.tok _, ⟨_, rfl⟩, q⟩
end
structure FunD (K : PySem.W.Frag) (x qual : Str) (st : Stmt) (f : Addr) (fd : FuncData) (ds : List Value) : Prop where
  ex : ∃ (oc : Value) (od : Option Addr) (T : Addr) (kV doc pm : Value) (an : Option Addr) (cdv ct : Value) (osl : Array (Option Value)) (tc : Value) (td : Option Addr) (tn : Nat) (tsl : Array (Option Value)),
    fd = PySem.W.fnOf x qual (defArgs st) (defBody st) (defScope st) (.ref T) kV doc pm an cdv ct ∧ K.lookup f = some ⟨oc, od, .func fd, osl⟩ ∧ PySem.W.codeIn K cdv qual = true ∧ K.lookup T = some ⟨tc, td, .seq ds.toArray tn, tsl⟩
  kp : PySem.W.keepIn K (.ref f) = true
section
variable {P : Program} {w : World} {K : PySem.W.Frag} {mg : Str → Option Value} {base : Heap} {ds : List Value}
theorem FunD.okU {x qual : Str} {st : Stmt} {f : Addr} {fd : FuncData} {N ps : List Str} {k : Nat} {sp : Sp} (F : FunD K x qual st f fd ds) (S : FnScope N ps (defScope st)) (len : ∀ vs H Q E, sp vs H Q E → vs.length = ps.length)
    (hbody : ∀ (cdv : Value) (A : Around) (outer : List Env) (s : Shared) (H : Hp) (vs : List V) (Q : VK) (E : XK), Room k (A.deeper (envOfC qual (defScope st) s.heap.objs.size f cdv)) → sp vs H Q E →
      ∃ t, PSs (cxOf (CXU P w) P w K mg base N qual (defScope st) f cdv A outer s H E).nox (defBody st) t ∧ t { nx := fun _ H' => Q .non H', rt := Q } (start N vs) H) : FnOk P w K mg base (CXU P w) (k + 1) f fd ps sp := by
  obtain ⟨oc, od, T, kV, doc, pm, an, cdv, ct, osl, tc, td, tn, tsl, rfl, lk, hcd, _⟩ := F.ex
  refine fn_of lk hcd S len fun A outer s H vs Q E hr hsp => ?_
  obtain ⟨t, h, q⟩ := hbody cdv A outer s H vs Q E hr hsp
  exact ⟨t, h.nox, q⟩
theorem FunD.binds {x qual : Str} {st : Stmt} {f : Addr} {fd : FuncData} {ps : List Str} {es : List Value} (F : FunD K x qual st f fd ds)
    (h : ∀ (T : Addr) (kV doc pm : Value) (an : Option Addr) (cdv ct : Value) (us : List Value), (us ++ es).length = ps.length → ∃ k : Option (Array Value) → Sem (List (Str × Value)), bindArgs (PySem.W.fnOf x qual (defArgs st) (defBody st) (defScope st) (.ref T) kV doc pm an cdv ct) ⟨us, []⟩ = (seqItems? (.ref T) >>= k) ∧ k (some ds.toArray) = pure (ps.zip (us ++ es))) : Binds K fd ps es := by
  obtain ⟨oc, od, T, kV, doc, pm, an, cdv, ct, osl, tc, td, tn, tsl, rfl, lk, hcd, hT⟩ := F.ex
  intro s us KX hl
  obtain ⟨k, h1, h2⟩ := h T kV doc pm an cdv ct us hl
  exact PySem.W.binds_K (T := T) KX rfl hT rfl h1 h2
theorem funD_mk {x qual : Str} {st : Stmt} {f T : Addr} {oc tc : Value} {od an td : Option Addr} {osl tsl : Array (Option Value)} {tn : Nat} {kV doc pm cdv ct : Value} (l : K.lookup f = some ⟨oc, od, .func (PySem.W.fnOf x qual (defArgs st) (defBody st) (defScope st) (.ref T) kV doc pm an cdv ct), osl⟩)
    (c : PySem.W.codeIn K cdv qual = true) (k : PySem.W.keepIn K (.ref f) = true) (t : K.lookup T = some ⟨tc, td, .seq ds.toArray tn, tsl⟩) : FunD K x qual st f (PySem.W.fnOf x qual (defArgs st) (defBody st) (defScope st) (.ref T) kV doc pm an cdv ct) ds :=
  ⟨⟨oc, od, T, kV, doc, pm, an, cdv, ct, osl, tc, td, tn, tsl, rfl, l, c, t⟩, k⟩
end
structure IsC (K : PySem.W.Frag) (C B : Addr) : Prop where
  ha : PySem.W.findIn K (.ref C) "__class__" = some (some (.builtin "object.__class__"))
  hn : PySem.W.specialIn K (.builtin "object.__class__") "__get__" = some (some (.builtin "getset_descriptor.__get__"))
  htk : PySem.W.takesIn K (.builtin "object.__class__") = some true
  hm : PySem.W.mroIn K C (.type "object") = some true
  ki : PySem.W.kitOne K (.ref C) (.ref B) = some true
section
variable {K : PySem.W.Frag} {σ : St} {H : Hp} {Q : VK} {D : Ends}
theorem r_min1 {p : Addr} {ns : List Int} (h : H p = some (.lst (ns.map V.int))) (hne : ns ≠ []) (q : Q (.int (mn ns)) H) : rMin1 K [.ref p] H Q := ⟨p, ns, rfl, SqL.of h, hne, fun m hm => by rw [hm.uniq (mn_is hne)]; exact q⟩
theorem r_index {p : Addr} {ns : List Int} {k : Int} (h : H p = some (.lst (ns.map V.int))) (hk : k ∈ ns) (hz : ns.length ≤ 1000000) (q : Q (.int (ns.idxOf k)) H) : rIndex (.ref p) [.int k] H Q := ⟨p, ns, k, rfl, rfl, h, hk, hz, q⟩
end
theorem get_src {α : Type} {src : α → V} {l : List α} {i : Nat} {x : V} (h : (l.map src)[i]? = some x) : ∃ y, l[i]? = some y ∧ x = src y := by
  rw [List.getElem?_map] at h
  cases e : l[i]? with
  | none => rw [e] at h; cases h
  | some n => rw [e] at h; cases h; exact ⟨n, rfl, rfl⟩
section
variable {K : PySem.W.Frag} {α β γ : Type} {te : TE} {acc : Addr} {fr : St} {H1 : Hp} {R : Hp → Prop}
theorem comp_mapL (src : α → V) (mk : β → V) (f : α → β) {a : Addr} {u : Option V} {l : List α} (hx : SqL K H1 a (l.map src)) (hz : l.length ≤ 1000000) (hn : H1 acc = none)
    (turn : ∀ (i : Nat) x H (Y : V → Hp → Prop), l[i]? = some x → Ext H1 H → (∀ H', Ext H H' → Y (mk (f x)) H') → te (some (src x) :: fr) H Y)
    (fin : ∀ H, Ext H1 H → H acc = some (.lst ((l.map f).map mk)) → R H) : rComp (Itl K a) (gName 0) [] te acc (u :: fr) H1 R := by
  refine comp_list hx (by rw [List.length_map]; exact hz) hn (fun j ys _ => ys = ((l.take j).map f).map mk) (by simp) (fun _ _ _ _ _ h => h) (fun j ys H _ h => by rw [h]; simp; omega) ?_ ?_
  · intro j y ys H hy e h Y N hY hN
    obtain ⟨y, ey, rfl⟩ := get_src hy
    refine r_tests0 (turn j y H Y ey e fun H' e' => hY _ _ e' ?_)
    rw [List.take_add_one, ey, h]
    simp
  · intro ys H e ha h
    refine fin H e ?_
    rw [ha, h, List.length_map, List.take_of_length_le (Nat.le_refl _)]
theorem comp_mapT (src : α → V) (mk : β → V) (f : α → β) {a : Addr} {u : Option V} {l : List α} (hx : SqT K H1 a (l.map src)) (hz : l.length ≤ 1000000) (hn : H1 acc = none)
    (turn : ∀ (i : Nat) x H (Y : V → Hp → Prop), l[i]? = some x → Ext H1 H → (∀ H', Ext H H' → Y (mk (f x)) H') → te (some (src x) :: fr) H Y)
    (fin : ∀ H, Ext H1 H → H acc = some (.lst ((l.map f).map mk)) → R H) : rComp (Itt K a) (gName 0) [] te acc (u :: fr) H1 R := by
  refine comp_tup hx (by rw [List.length_map]; exact hz) hn (fun j ys _ => ys = ((l.take j).map f).map mk) (by simp) (fun _ _ _ _ _ h => h) (fun j ys H _ h => by rw [h]; simp; omega) ?_ ?_
  · intro j y ys H hy e h Y N hY hN
    obtain ⟨y, ey, rfl⟩ := get_src hy
    refine r_tests0 (turn j y H Y ey e fun H' e' => hY _ _ e' ?_)
    rw [List.take_add_one, ey, h]
    simp
  · intro ys H e ha h
    refine fin H e ?_
    rw [ha, h, List.length_map, List.take_of_length_le (Nat.le_refl _)]
theorem comp_mapR (mk : β → V) (f : Nat → β) {n : Nat} {u : Option V} (hz : n ≤ 1000000) (hn : H1 acc = none)
    (turn : ∀ (i : Nat) H (Y : V → Hp → Prop), i < n → Ext H1 H → (∀ H', Ext H H' → Y (mk (f i)) H') → te (some (.int (i : Nat)) :: fr) H Y)
    (fin : ∀ H, Ext H1 H → H acc = some (.lst (((List.range n).map f).map mk)) → R H) : rComp (Itr 0 n) (gName 0) [] te acc (u :: fr) H1 R := by
  refine comp_range hz hn (fun j ys _ => ys = ((List.range j).map f).map mk) rfl (fun _ _ _ _ _ h => h) (fun j ys H _ h => by rw [h]; simp) ?_ ?_
  · intro j ys H hj e h Y N hY hN
    rw [show ((0 : Int) + (j : Nat)) = (j : Nat) by omega]
    refine r_tests0 (turn j H Y hj e fun H' e' => hY _ _ e' ?_)
    rw [List.range_succ, h]
    simp
  · intro ys H e ha h
    refine fin H e ?_
    rw [ha, h]
theorem comp_mapZ (src : α → V) (sr2 : γ → V) (mk : β → V) (f : α → γ → β) {p q : Addr} {c d : Bool} {u v : Option V} {l : List α} {m : List γ} (hx : SqE K H1 p (l.map src) c) (hy : SqE K H1 q (m.map sr2) d) (hl : l.length = m.length) (hz : l.length ≤ 1000000) (hn : H1 acc = none)
    (turn : ∀ (i : Nat) x y H (Y : V → Hp → Prop), l[i]? = some x → m[i]? = some y → Ext H1 H → (∀ H', Ext H H' → Y (mk (f x y)) H') → te (some (src x) :: some (sr2 y) :: fr) H Y)
    (fin : ∀ H, Ext H1 H → H acc = some (.lst ((List.zipWith f l m).map mk)) → R H) : rComp (Itz2 K c d p q) (gTup K 2 (gCons (gName 0) (gCons (gName 1) gNil))) [] te acc (u :: v :: fr) H1 R := by
  refine comp_zip2 hx hy (by simpa using hl) (by rw [List.length_map]; exact hz) hn (fun j ys _ => ys = ((List.zipWith f l m).take j).map mk) (by simp) (fun _ _ _ _ _ h => h) (fun j ys H _ h => by rw [h]; simp; omega) ?_ ?_
  · intro j x y ys H H' hx' hy' e e' h Y N hY hN
    obtain ⟨x, ex, rfl⟩ := get_src hx'
    obtain ⟨y, ey, rfl⟩ := get_src hy'
    refine r_tests0 (turn j x y H' Y ex ey (e.tr e') fun H2 e2 => hY _ _ (e'.tr e2) ?_)
    rw [List.take_add_one, List.getElem?_zipWith, ex, ey, h]
    simp
  · intro ys H e ha h
    refine fin H e ?_
    rw [ha, h, List.length_map, List.take_of_length_le (by rw [List.length_zipWith]; omega)]
end
section
variable {X : Cx}
open Classical in
theorem op_neD {k : Nat} (hr : Room k X.A) : OpR X (compareOp .NotEq) (rEqD true) := by
  intro pins s σ H x y v u Q I rx ry h
  obtain ⟨a, b, ha, hb, oa, ob, hd, q⟩ := h
  obtain ⟨as, r1⟩ := reads_of I a ha rx oa
  obtain ⟨bs, r2⟩ := reads_of I b hb ry ob
  have h1 := D.pyDepth a
  exact SeqAt.compareNe_reads r1 r2 (D.canLay a oa) (D.canLay b ob) (by have := hr.units; omega) ⟨.bl (!eqD a b), H, I, rfl, q⟩
theorem oNe {k : Nat} (hr : Room k X.A) : OpR X (compareOp .NotEq) rNeU := op_ne.or (op_neD hr)
end
section
variable {K : PySem.W.Frag} {σ : St} {H : Hp} {Q : VK}
theorem r_neUI {i j : Int} (q : Q (.bl (!decide (i = j))) H) : rNeU (.int i) (.int j) H Q := .inl (r_neI q)
end
section
variable {X : Cx} {pins : List (Addr × Obj)} {σ : St} {H : Hp} {s : Shared} {h' : Heap} {n : Nat}
open Classical in
end
def XP (X : Cx) (pins : List (Addr × Obj)) (σ : St) (E : XK) (e : Value) (s : Shared) : Prop :=
  ∃ n H a C dx, e = .ref a ∧ X.s₀.heap.objs.size ≤ n ∧ (∀ p ∈ X.pn ++ pins, p.1 < n) ∧ Inv X pins σ H s ∧ Err n H s.heap a C dx .none ∧ E C dx H
section
variable {X : Cx} {k : Nat} {f C : Addr} {fd : FuncData} {ps : List Str} {sp : Sp} {dvs : List V} {ds : List Value} {E : XK}
theorem XP.of {pins : List (Addr × Obj)} {σ : St} {H : Hp} {s s' : Shared} {e : Value} (I : Inv X pins σ H s) (h : CXE X.prog X.w X.stack H s E e s') : XP X pins σ E e s' := by
  obtain ⟨a, C, dx, H', rfl, ho, hg, u, hok, er, q⟩ := h
  exact ⟨_, H', a, C, dx, rfl, I.sz, fun p hp => Heap.lt_size (I.pin p hp).1, I.call' (ch := []) ho u hok hg fun b z => absurd z (by simp), er, q⟩
end
structure Catch (K : PySem.W.Frag) (C L : Addr) : Prop where
  ex : ∃ bm bl, ErrC K C bm ∧ ErrC K L bl ∧ (Value.ref C :: bm).contains (.ref L) = true
open PySem.Builtin PySem.Builtin.ObjectAttr
structure ErrI (K : PySem.W.Frag) (C : Addr) : Prop where
  at_ : ∃ nm q N bs bm sn sub ab col dd k0 k1 k2 k3 k5 newId, K.lookup C = some (excClassObj nm q C N bs bm true sn sub ab col dd k0 k1 k2 k3 k5 newId) ∧ bm.contains (.type "BaseException") = true
  ga : PySem.W.findIn K (.ref C) "__getattribute__" = some (some (.builtin "BaseException.__getattribute__"))
  gh : PySem.W.findIn K (.ref C) "__getattr__" = some none
  ca : PySem.W.findIn K (.ref C) "__class__" = some (some (.builtin "object.__class__"))
  cn : PySem.W.specialIn K (.builtin "object.__class__") "__get__" = some (some (.builtin "getset_descriptor.__get__"))
  ct : PySem.W.takesIn K (.builtin "object.__class__") = some true
  cm : PySem.W.mroIn K C (.type "object") = some true
def HasErr (H : Hp) (a C dx : Addr) : Prop := H a = some (errH a (.ref C) (some dx)) ∨ H a = some (errN a C (some dx))
theorem HasErr.mono {H H' : Hp} {a C dx : Addr} (e : Ext H H') (h : HasErr H a C dx) : HasErr H' a C dx := h.imp (fun z => e _ _ z) (fun z => e _ _ z)
def bmV : List Value := [.type "ValueError", .type "Exception", .type "BaseException", .type "object"]
structure ErrK (K : PySem.W.Frag) (C : Addr) (bm : List Value) (f : Addr) : Prop where
  lk : ∃ nm q N bs sn sub ab col dd k0 k1 k2 k3 k5, K.lookup C = some (excClassObj nm q C N bs bm true sn sub ab col dd k0 k1 k2 k3 k5 "ValueError.__new__")
  init : PySem.W.findIn K (.ref C) "__init__" = some (some (.ref f))
  fn : PySem.W.isFn K (.ref f) = true
  kp : PySem.W.keepIn K (.ref C) = true
  set : PySem.W.findIn K (.ref C) "__setattr__" = some (some (.builtin "object.__setattr__"))
  row : PySem.W.findIn K (.ref C) "row" = some none
  ga : PySem.W.findIn K (.ref C) "__getattribute__" = some (some (.builtin "BaseException.__getattribute__"))
  gh : PySem.W.findIn K (.ref C) "__getattr__" = some none
  ca : PySem.W.findIn K (.ref C) "__class__" = some (some (.builtin "object.__class__"))
  cn : PySem.W.specialIn K (.builtin "object.__class__") "__get__" = some (some (.builtin "getset_descriptor.__get__"))
  ct : PySem.W.takesIn K (.builtin "object.__class__") = some true
  cm : PySem.W.mroIn K C (.type "object") = some true
def Tl (bm : List Value) : Prop := bm = bmV ∨ ∃ L, bm = .ref L :: bmV
theorem Tl.has {bm : List Value} {T : String} (h : Tl bm) (k : bmV.contains (.type T) = true) : bm.contains (.type T) = true := by
  rcases h with rfl | ⟨L, rfl⟩
  · exact k
  · rw [List.contains_cons, k, Bool.or_true]
theorem Tl.no {bm : List Value} {T : String} (h : Tl bm) (k : bmV.contains (.type T) = false) : bm.contains (.type T) = false := by
  rcases h with rfl | ⟨L, rfl⟩
  · exact k
  · rw [List.contains_cons, k, Bool.or_false]; rfl
section
variable {K : PySem.W.Frag} {C f : Addr} {bm : List Value}
theorem ErrK.em (e : ErrK K C bm f) (h : Tl bm) : ErrM K C f bm bmV "ValueError" "ValueError.__new__" "ValueError.__init__" := by
  obtain ⟨nm, q, N, bs, sn, sub, ab, col, dd, k0, k1, k2, k3, k5, lk⟩ := e.lk
  exact ⟨⟨nm, q, N, bs, _, sn, sub, ab, col, dd, k0, k1, k2, k3, k5, lk⟩, PySem.F.excBase_ValueError, h.has (by decide +kernel), h.no (by decide +kernel), h.no (by decide +kernel), h.has (by decide +kernel), e.init, e.fn, e.kp⟩
theorem ErrK.es (e : ErrK K C bm f) (h : Tl bm) : ErrS K C "row" bm := by
  obtain ⟨nm, q, N, bs, sn, sub, ab, col, dd, k0, k1, k2, k3, k5, lk⟩ := e.lk
  refine ⟨⟨nm, q, N, bs, sn, sub, ab, col, dd, k0, k1, k2, k3, k5, _, lk⟩, fun x => ?_, h.has (by decide +kernel), e.set, e.row⟩
  rcases h with rfl | ⟨L, rfl⟩
  · exact PySem.F.store_ValueError.passes _
  · rw [refuseLoop_ref]; exact PySem.F.store_ValueError.passes _
theorem ErrK.ec (e : ErrK K C bm f) (h : Tl bm) : ErrC K C bm := by
  obtain ⟨nm, q, N, bs, sn, sub, ab, col, dd, k0, k1, k2, k3, k5, lk⟩ := e.lk
  exact ⟨⟨nm, q, N, bs, _, sn, sub, ab, col, dd, k0, k1, k2, k3, k5, _, lk⟩, h.has (by decide +kernel)⟩
theorem ErrK.ei (e : ErrK K C bm f) (h : Tl bm) : ErrI K C := by
  obtain ⟨nm, q, N, bs, sn, sub, ab, col, dd, k0, k1, k2, k3, k5, lk⟩ := e.lk
  exact ⟨⟨nm, q, N, bs, bm, sn, sub, ab, col, dd, k0, k1, k2, k3, k5, _, lk, h.has (by decide +kernel)⟩, e.ga, e.gh, e.ca, e.cn, e.ct, e.cm⟩
end
section
variable {K : PySem.W.Frag} {σ : St} {H : Hp} {Q : VK}
theorem flat_one {α : Type} (x : α) : ∀ k : Nat, (List.replicate k [x]).flatten = List.replicate k x
  | 0 => rfl
  | k + 1 => by rw [List.replicate_succ, List.flatten_cons, flat_one x k, List.replicate_succ]; rfl
theorem r_rep1 {l : Addr} {x : V} {k : Int} (h : H l = some (.lst [x])) (k0 : 0 ≤ k) (k1 : k ≤ 1000000) (q : ∀ p H', H p = none → H' p = some (.lst (List.replicate k.toNat x)) → Ext H H' → Q (.ref p) H') : rRep (.ref l) (.int k) H Q :=
  ⟨l, k, [x], rfl, rfl, h, by omega, by omega, by rw [sizeLine_eq]; show 1 * k.toNat ≤ _; omega, fun p n => q p _ n (by rw [flat_one]; exact upd_same) (ext_upd n)⟩
end
theorem RepL.many {H : Hp} {d : D} {x : V} (h : Rep H d x) : ∀ k : Nat, RepL H (List.replicate k d) (List.replicate k x)
  | 0 => RepL.nil
  | k + 1 => by rw [List.replicate_succ, List.replicate_succ]; exact RepL.cons h (RepL.many h k)
def IsRv (h : Heap) (d : Addr) (l : Value) (i : Int) : Prop := h.get? d = some { cls := .type "reversed", data := .fields #[l, rawInt i] }
theorem IsRv.ty {h : Heap} {d : Addr} {l : Value} {i : Int} {s : Shared} (x : IsRv s.heap d l i) : s.TypeIs (.ref d) "reversed" := ⟨_, x, rfl⟩
theorem tup_at {h h' : Heap} {l : Addr} {xs : Array Value} (x : IsTup h l xs) (e : ∀ o, h.get? l = some o → h'.get? l = some o) : IsTup h' l xs := let ⟨o, ho, r⟩ := x; ⟨o, e _ ho, r⟩
theorem rv_items {its : List Value} {acc : Array Value} (h : ItemsOf (fun i v => its.toArray[its.toArray.size - 1 - i]? = some v) acc its.toArray.size) : acc.toList = its.reverse := by
  obtain ⟨h1, h2⟩ := h
  have h1 : acc.size = its.length := by rw [h1]; simp
  refine List.ext_getElem? fun i => ?_
  rw [Array.getElem?_toList]
  by_cases hi : i < its.length
  · have ha : acc[i]? = some (acc[i]'(by omega)) := Array.getElem?_eq_getElem (by omega)
    have := h2 i _ ha
    rw [ha, List.getElem?_reverse hi]
    simpa using this.symm
  · rw [Array.getElem?_eq_none (by omega), List.getElem?_eq_none (by simp; omega)]
theorem iteTc {c : Bool} {A B : Prop} (h : c = true) (q : A) : if c = true then A else B := by rw [h]; exact iteT q
theorem iteFc {c : Bool} {A B : Prop} (h : c = false) (q : B) : if c = true then A else B := by rw [h]; exact iteF q
structure RoomW (k : Nat) (A : Around) : Prop where
  dp : A.depth + 3 * k + 5 < recursionLimit
  un : A.units + 16 * k + 200 < cLine
theorem RoomW.mono {j k : Nat} {A : Around} (r : RoomW k A) (h : j ≤ k) : RoomW j A := ⟨by have := r.dp; omega, by have := r.un; omega⟩
theorem RoomW.deeper {k : Nat} {A : Around} (r : RoomW (k + 1) A) (env : Env) : RoomW k (A.deeper env) :=
  ⟨by have := r.dp; show A.depth + 1 + 3 * k + 5 < _; omega, by have := r.un; show A.units + 3 + 16 * k + 200 < _; omega⟩
theorem Room.w {k : Nat} {A : Around} (r : Room k A) : RoomW k A := ⟨r.dp, r.un⟩
theorem Room.ex {k : Nat} {A : Around} (r : Room k A) (v : Option Value) : RoomW k (A.mark v) := ⟨r.dp, r.un⟩
theorem RoomW.depth {k : Nat} {A : Around} (r : RoomW k A) : A.depth < recursionLimit := by have := r.dp; omega
structure FnOkW (P : Program) (w : World) (K : PySem.W.Frag) (mg : Str → Option Value) (base : Heap) (CX : CXT) (k : Nat) (f : Addr) (fd : FuncData) (ps : List Str) (sp : Sp) : Prop where
  len : ∀ vs H Q E, sp vs H Q E → vs.length = ps.length
  run : ∀ (A : Around) (outer : List Env) (s : Shared) (H : Hp) (args : Args) (us : List Value) (vs : List V) (Q : VK) (E : XK), RoomW k A → Env0 P w K mg base A outer s H → BindsTo s fd args (ps.zip us) → Vals vs us → sp vs H Q E →
    codeAny (model P w) A (.call (.ref f) args) (CR CX outer P w H s Q E) s
abbrev newSet (led : Bool) : Obj := { cls := .type "set", dict := none, data := .set #[] 0 (.fresh 0 0 led) }
section
variable {X : Cx}
variable {o i value : Expr} {pos pos' : Pos} {td ty tv : TE}
theorem pe_dgetR {k : Nat} (hr : Room k X.A) (ho : PE X o td) (hi : PE X i ty) (hs : NoSl i) : PE X (.Subscript o i pos) (tDGet td ty) := pe_dget (by have := hr.un; omega) ho hi hs
theorem ps_dputR {k : Nat} (hr : Room k X.A) (ho : PE X o td) (hi : PE X i ty) (hv : PE X value tv) (hs : swapsWith value (some (.Subscript o i pos')) pos.line X.env = pure false) : PS X (.Assign [.Subscript o i pos'] value pos) (sDPut td ty tv) := ps_dput (by have := hr.un; omega) ho hi hv hs
end
section
variable {K : PySem.W.Frag} {σ : St} {H : Hp} {Q : VK} {td ty tv : TE}
def rDGet (x y : V) (H : Hp) (Q : VK) : Prop := ∃ a v, x = .ref a ∧ DGet H a y (some v) ∧ Q v H
def rDPut (x y v : V) (H : Hp) (R : Hp → Prop) : Prop := ∃ a H4, x = .ref a ∧ DPut H a y v H4 ∧ R H4
theorem r_dget (q : td σ H fun x H1 => ty σ H1 fun y H2 => rDGet x y H2 Q) : tDGet td ty σ H Q := q
theorem r_dput {D : Ends} (q : tv σ H fun v H1 => td σ H1 fun x H2 => ty σ H2 fun y H3 => rDPut x y v H3 fun H4 => D.nx σ H4) : sDPut td ty tv D σ H := q
end
theorem cons_erase {α : Type} : ∀ (l : List α) (i : Nat) (h : i < l.length), (l[i] :: l.eraseIdx i).Perm l
  | a :: l, 0, h => List.Perm.refl _
  | a :: l, i + 1, h => (List.Perm.swap a _ _).trans (List.Perm.cons a (cons_erase l i (Nat.lt_of_succ_lt_succ h)))
theorem pick_go {α : Type} (next : Nat → Nat) : ∀ (fuel k : Nat) (left : List α) (out : Array α), left.length = fuel → (pickOrder.go next fuel k left out).toList.Perm (out.toList ++ left)
  | 0, k, left, out, h => by
    rw [List.length_eq_zero_iff.mp h, List.append_nil]
    exact List.Perm.refl _
  | fuel + 1, k, left, out, h => by
    have lt : next k % left.length < left.length := Nat.mod_lt _ (by omega)
    unfold pickOrder.go
    rw [List.getElem?_eq_getElem lt]
    refine (pick_go next fuel (k + 1) _ _ (by rw [List.length_eraseIdx_of_lt lt]; omega)).trans ?_
    rw [Array.toList_push, List.append_assoc]
    exact List.Perm.append_left _ (cons_erase _ _ lt)
theorem pick_perm {α : Type} (next : Nat → Nat) (xs : Array α) : (pickOrder next xs).toList.Perm xs.toList := pick_go next xs.size 0 xs.toList #[] (Array.length_toList ..)
theorem si_owner : Manifest.owners.lookup (String.ofList ['r', 'o', 't', 'a', 'r', 'e', 't', 'i', '_', 't', 'e', 's'].reverse) = some Manifest.sig_set_iterator := by kernel_rfl
theorem si_nextL : Slot "set_iterator" "__next__" "set_iterator.__next__" := .of (owner := "set_iterator") (n := "__next__") (by rw [typeLookup_type, builtinLookup_eq_fast]; kernel_rfl) (by decide +kernel) (by decide +kernel) (by decide +kernel) (by first | exact .inl (by decide +kernel) | exact .inr (by decide +kernel)) (by rw [isSubtype_type]; kernel_rfl)
theorem si_nextE : entryFor table "set_iterator.__next__" = some Builtin.«set_iterator.__next__» := entryFor_of_tree (by kernel_rfl)
theorem si_nextA (a : Value) : argsOk "set_iterator.__next__" ⟨[a], []⟩ := by unfold argsOk; rw [signature?_of (id := "set_iterator.__next__") (n := ['_', '_', 't', 'x', 'e', 'n', '_', '_']) (o := ['r', 'o', 't', 'a', 'r', 'e', 't', 'i', '_', 't', 'e', 's']) (by kernel_rfl) si_owner]; kernel_rfl
theorem si_iterL : Slot "set_iterator" "__iter__" "set_iterator.__iter__" := .of (owner := "set_iterator") (n := "__iter__") (by rw [typeLookup_type, builtinLookup_eq_fast]; kernel_rfl) (by decide +kernel) (by decide +kernel) (by decide +kernel) (by first | exact .inl (by decide +kernel) | exact .inr (by decide +kernel)) (by rw [isSubtype_type]; kernel_rfl)
theorem si_iterA (a : Value) : argsOk "set_iterator.__iter__" ⟨[a], []⟩ := by unfold argsOk; rw [signature?_of (id := "set_iterator.__iter__") (n := ['_', '_', 'r', 'e', 't', 'i', '_', '_']) (o := ['r', 'o', 't', 'a', 'r', 'e', 't', 'i', '_', 't', 'e', 's']) (by kernel_rfl) si_owner]; kernel_rfl
theorem si_iterE : entryFor table "set_iterator.__iter__" = some Builtin.«dict_keyiterator.__iter__» := entryFor_alias (id' := "dict_keyiterator.__iter__") (by kernel_rfl) (by first | rfl | decide +kernel | (unfold String.splitOn; simp +decide [String.splitOnAux])) (by decide +kernel) (by kernel_rfl)
theorem st_iterE : entryFor table "set.__iter__" = some Builtin.«frozenset.__iter__» := entryFor_alias (id' := "frozenset.__iter__") (by kernel_rfl) (by first | rfl | decide +kernel | (unfold String.splitOn; simp +decide [String.splitOnAux])) (by decide +kernel) (by kernel_rfl)
def byT (w : World) : Bool := w.params.followText "set-order"
abbrev stObj (es : Array (Int × Value)) (ep : Nat) (t : SetTable) : Obj := { cls := .type "set", dict := none, data := .set es ep t, slots := #[] }
abbrev siObj (f i : Nat) (S : Addr) (n ep : Nat) : Obj := { cls := .type "set_iterator", dict := none, data := .fields #[rawInt f, rawInt i, .ref S, rawInt n, rawInt ep], slots := #[] }
structure Rise (t : SetTable) (n : Nat) (sl : Nat → Nat) : Prop where
  fits : t.fits n = true
  plain : t.plain = true
  zero : sl 0 = 0
  low : ∀ i, i ≤ n → SetTable.below t.place (sl i) = i
  step : ∀ i, i < n → ∃ j, t.place[i]? = some j ∧ j + 1 = sl (i + 1)
def fsOf (w : World) (sl : Nat → Nat) (i : Nat) : Nat := if byT w then 0 else sl i
def ordOf (w : World) (S : Addr) (ep : Nat) (es : Array (Int × Value)) : Array (Int × Value) := if byT w then pickOrder (w.params.setOrder S ep) es else es
theorem ord_perm (w : World) (S : Addr) (ep : Nat) (es : Array (Int × Value)) : (ordOf w S ep es).toList.Perm es.toList := by
  unfold ordOf
  split
  · exact pick_perm _ _
  · exact List.Perm.refl _
theorem ord_size (w : World) (S : Addr) (ep : Nat) (es : Array (Int × Value)) : (ordOf w S ep es).size = es.size := by
  rw [← Array.length_toList, (ord_perm w S ep es).length_eq, Array.length_toList]
section
variable {prog : Program} {w : World} {A : Around} {E : Value → Shared → Prop} {s : Shared}
theorem byText_of {Q : Bool → Shared → Prop} (h : Q (byT w) s) : wpAny (model prog w) A setsByText Q E s := by
  unfold setsByText
  skip; exact wpAny_bind (wpAny_askSetting (wpAny_pure h))
theorem si_setNext {S : Addr} {es : Array (Int × Value)} {ep i : Nat} {t : SetTable} {sl : Nat → Nat} {Q : Option (Value × Nat) → Shared → Prop} (hS : s.heap.get? S = some (stObj es ep t)) (R : Rise t es.size sl) (hled : t.led = !byT w) (hi : i ≤ es.size)
    (h : Q (((ordOf w S ep es)[i]?).map fun e => (e.2, fsOf w sl (i + 1))) s) : wpAny (model prog w) A (setNext S (fsOf w sl i) i ep) Q E s := by
  unfold setNext
  refine wpAny_bind (wpAny_setState_of hS rfl R.fits (wpAny_bind (byText_of ?_)))
  unfold ordOf fsOf at h
  unfold fsOf
  by_cases hb : byT w = true
  · rw [hb] at h ⊢
    simp only [if_true] at h ⊢
    rw [if_neg (by simp)]
    refine wpAny_bind ?_
    unfold setWalk
    refine wpAny_bind (wpAny_setState_of hS rfl R.fits (wpAny_bind (byText_of ?_)))
    rw [hb]
    exact wpAny_bind (wpAny_askSetting (wpAny_pure (wpAny_pure h)))
  · rw [Bool.not_eq_true] at hb
    rw [hb] at h hled ⊢
    simp only [Bool.false_eq_true, if_false] at h ⊢
    show wpAny _ _ (if (!t.plain && decide (es.size > 1)) = true then _ else _) _ _ _
    rw [R.plain]
    rw [if_neg (by simp)]
    refine wpAny_bind ?_
    show wpAny _ _ (if (!t.led && !es.isEmpty) = true then _ else _) _ _ _
    rw [hled, if_neg (by simp)]
    refine wpAny_pure ?_
    rw [R.low i hi]
    by_cases hlt : i < es.size
    · obtain ⟨j, e1, e2⟩ := R.step i hlt
      rw [Array.getElem?_eq_getElem hlt] at h ⊢
      rw [e1]
      dsimp only [Option.map] at h ⊢
      rw [e2]
      exact wpAny_pure h
    · rw [Array.getElem?_eq_none (by omega)] at h ⊢
      exact wpAny_pure h
theorem si_item {I S : Addr} {es : Array (Int × Value)} {ep i : Nat} {t : SetTable} {sl : Nat → Nat} {x : Int × Value} {Q : Option Value → Shared → Prop} (hI : s.heap.get? I = some (siObj (fsOf w sl i) i S es.size ep)) (hS : s.heap.get? S = some (stObj es ep t)) (R : Rise t es.size sl) (hled : t.led = !byT w) (hi : i < es.size) (ne : S ≠ I)
    (hx : (ordOf w S ep es)[i]? = some x) (hQ : ∀ h', h'.get? I = some (siObj (fsOf w sl (i + 1)) (i + 1) S es.size ep) → Heap.SameBut I s.heap h' → Q (some x.2) { s with heap := h' }) : wpAny (model prog w) A (pyNext (.ref I)) Q E s := by
  have te : s.TypeIs (.ref I) "set_iterator" := ⟨_, hI, rfl⟩
  unfold pyNext
  refine wpAny_bind (wpAny_attempt (wpAny_callSpecial?_slot (name := Str.ofString "__next__") te si_nextL (wpAny_call_entry si_nextL te si_nextE ?_ (si_nextA _))))
  unfold Builtin.«set_iterator.__next__»
  refine wpAny_bind (wpAny_of_eq (a := (Value.ref I, [])) rfl ?_)
  refine wpAny_bind (wpAny_fieldsOf hI rfl ?_)
  show wpAny _ _ (setEntries S >>= _) _ _ _
  refine wpAny_bind (wpAny_setEntries_of hS rfl R.fits ?_)
  rw [if_neg (by simp)]
  show wpAny _ _ (setNext S (fsOf w sl i : Int).toNat (i : Int).toNat (ep : Int).toNat >>= _) _ _ _
  rw [Int.toNat_natCast, Int.toNat_natCast, Int.toNat_natCast]
  refine wpAny_bind (si_setNext hS R hled (by omega) ?_)
  rw [hx]
  show wpAny _ _ (setField (.ref I) 0 (rawInt (fsOf w sl (i + 1) : Nat)) >>= _) _ _ _
  refine wpAny_bind (wpAny_setField_rec hI (by simp) fun g1 e1 s1 => wpAny_bind (wpAny_setField_rec e1 (by simp) fun g2 e2 s2 => ?_))
  refine wpAny_pure ⟨_, rfl, wpAny_pure (hQ g2 ?_ (s1.trans s2))⟩
  exact e2
theorem si_end {I S : Addr} {es : Array (Int × Value)} {ep : Nat} {t : SetTable} {sl : Nat → Nat} {Q : Option Value → Shared → Prop} (hh : A.handled = none) (hI : s.heap.get? I = some (siObj (fsOf w sl es.size) es.size S es.size ep)) (hS : s.heap.get? S = some (stObj es ep t)) (R : Rise t es.size sl) (hled : t.led = !byT w)
    (hQ : ∀ h', (∀ b o, b ≠ I → s.heap.get? b = some o → h'.get? b = some o) → Q none { s with heap := h' }) : wpAny (model prog w) A (pyNext (.ref I)) Q E s := by
  have te : s.TypeIs (.ref I) "set_iterator" := ⟨_, hI, rfl⟩
  unfold pyNext
  refine wpAny_bind (wpAny_attempt (wpAny_callSpecial?_slot (name := Str.ofString "__next__") te si_nextL (wpAny_call_entry si_nextL te si_nextE ?_ (si_nextA _))))
  unfold Builtin.«set_iterator.__next__»
  refine wpAny_bind (wpAny_of_eq (a := (Value.ref I, [])) rfl ?_)
  refine wpAny_bind (wpAny_fieldsOf hI rfl ?_)
  show wpAny _ _ (setEntries S >>= _) _ _ _
  refine wpAny_bind (wpAny_setEntries_of hS rfl R.fits ?_)
  rw [if_neg (by simp)]
  show wpAny _ _ (setNext S (fsOf w sl es.size : Int).toNat (es.size : Int).toNat (ep : Int).toNat >>= _) _ _ _
  rw [Int.toNat_natCast, Int.toNat_natCast, Int.toNat_natCast]
  refine wpAny_bind (si_setNext hS R hled (Nat.le_refl _) ?_)
  rw [Array.getElem?_eq_none (by rw [ord_size]; exact Nat.le_refl _)]
  show wpAny _ _ (setField (.ref I) 2 .none >>= _) _ _ _
  refine wpAny_bind (wpAny_setField_rec hI (by simp) fun g1 e1 s1 => ?_)
  have kk : ∀ b o, b ≠ I → s.heap.get? b = some o → g1.get? b = some o := fun b o q h => s1.extBut b o q h
  refine wpAny_bind ?_; simp only [newExc, newTuple]; refine wpAny_bind (wpAny_newObj_type (wpAny_bind (m := firstArgMember _ _) (wpAny_of_eq (a := Value.none) (by first | rfl | (simp only [firstArgMember]; rfl)) (wpAny_newObj_type ?_ (by size_fits)))) (by size_fits))
  simp only [raiseNew]; refine wpAny_bind (wpAny_handled ?_); first | rw [show A.in1.handled = none from hh] | rw [hh]
  refine wpAny_bind (wpAny_pure (wpAny_throw ?_)); refine wpAny_bind (wpAny_isInstance (T := "StopIteration") (b := true) ⟨_, Heap.get?_push_size _ rfl, rfl⟩ isSubtype_stop ?_)
  exact wpAny_pure (hQ _ fun b o q h => Heap.get?_push_of_some _ (Heap.get?_push_of_some _ (kk b o q h)))
theorem si_self {I S : Addr} {f i n ep : Nat} {Q : Value → Shared → Prop} (hI : s.heap.get? I = some (siObj f i S n ep)) (h : Q (.ref I) s) : wpAny (model prog w) A (pyIter (.ref I)) Q E s := by
  have te : s.TypeIs (.ref I) "set_iterator" := ⟨_, hI, rfl⟩
  refine wpAny_pyIter_slot te si_iterL (wpAny_call_entry si_iterL te si_iterE ?_ (si_iterA _))
  exact wpAny_pure ⟨_, rfl, "set_iterator", _, te, si_nextL.lookup, h⟩
theorem st_iter {S : Addr} {es : Array (Int × Value)} {ep : Nat} {t : SetTable} {sl : Nat → Nat} {Q : Value → Shared → Prop} (hS : s.heap.get? S = some (stObj es ep t)) (R : Rise t es.size sl)
    (h : Q (.ref s.heap.objs.size) { s with heap := s.heap.push (siObj 0 0 S es.size ep) }) : wpAny (model prog w) A (pyIter (.ref S)) Q E s := by
  have te : s.TypeIs (.ref S) "set" := ⟨_, hS, rfl⟩
  refine wpAny_pyIter_slot te PySem.F.slot_set_iter (wpAny_call_entry PySem.F.slot_set_iter te st_iterE ?_ (PySem.F.args_set_iter_1 _))
  unfold Builtin.«frozenset.__iter__»
  refine wpAny_bind (wpAny_of_eq (a := S) rfl ?_)
  unfold Builtin.Frozenset.sizeOf
  refine wpAny_bind (wpAny_bind (wpAny_setEntries_of hS rfl R.fits (wpAny_pure ?_)))
  refine wpAny_bind ?_
  unfold setDrawn
  refine wpAny_bind (wpAny_setState_of hS rfl R.fits (wpAny_bind (byText_of (wpAny_pure ?_))))
  have e : (!byT w && (!t.plain && decide (es.size > 1))) = false := by rw [R.plain]; simp
  show wpAny _ _ (if (!byT w && (!t.plain && decide (es.size > 1))) = true then _ else _) _ _ _
  rw [e, if_neg (by decide)]
  refine wpAny_bind (wpAny_pure ?_)
  refine wpAny_bind (wpAny_setEpoch_of hS rfl R.fits ?_)
  exact wpAny_bind (wpAny_newObj_type (wpAny_pure ⟨_, rfl, "set_iterator", _, ⟨_, Heap.get?_push_size _ rfl, rfl⟩, si_nextL.lookup, h⟩))
end
theorem si_walks {prog : Program} {w : World} {A : Around} (hh : A.handled = none) (I S : Addr) (ne : S ≠ I) {es : Array (Int × Value)} {ep : Nat} {t : SetTable} {sl : Nat → Nat} (R : Rise t es.size sl) (hled : t.led = !byT w) :
    Walks prog w A I [I, S] [I] es.size (fun i v => ((ordOf w S ep es)[i]?).map (·.2) = some v) (fun i h => i ≤ es.size ∧ h.get? I = some (siObj (fsOf w sl i) i S es.size ep) ∧ h.get? S = some (stObj es ep t)) where
  sub := fun b hb => by rw [List.mem_singleton.mp hb]; simp
  frame := fun _ _ _ x hk => ⟨x.1, hk I (by simp) _ x.2.1, hk S (by simp) _ x.2.2⟩
  item := fun i s Q E hi x (hQ) => by
    have hx : (ordOf w S ep es)[i]? = some ((ordOf w S ep es)[i]'(by rw [ord_size]; exact hi)) := Array.getElem?_eq_getElem _
    refine si_item x.2.1 x.2.2 R hled hi ne hx fun h' hit' hs' => ?_
    exact hQ _ h' s.toks (by rw [hx]; rfl) ⟨hi, hit', (hs'.2 S ne).trans x.2.2⟩ fun b o hb eo => hs'.extBut b o (fun h => hb (by simp [h])) eo
  done := fun s Q E x hQ => si_end hh x.2.1 x.2.2 R hled fun h' he' => hQ h' s.toks fun b o hb eo => he' b o (fun h => hb (by simp [h])) eo
  self := fun _ _ _ _ x hQ => si_self x.2.1 hQ
theorem st_sub : isSubtype (.type "set") (.type "set") = pure true := by rw [isSubtype_type]; kernel_rfl
section
variable {prog : Program} {w : World} {A : Around} {E : Value → Shared → Prop} {s : Shared}
theorem st_collect {S : Addr} {es : Array (Int × Value)} {ep : Nat} {t : SetTable} {sl : Nat → Nat} {Q : List Value → Shared → Prop} (hh : A.handled = none) (hS : s.heap.get? S = some (stObj es ep t)) (R : Rise t es.size sl) (hled : t.led = !byT w) (hz : es.size ≤ sizeLine)
    (hQ : ∀ s' acc, Moved [] (fun a b => b = a) s s' → ItemsOf (fun i v => ((ordOf w S ep es)[i]?).map (·.2) = some v) acc es.size → Q acc.toList s') : wpAny (model prog w) A (collect (.ref S)) Q E s := by
  have lS : S < s.heap.objs.size := Heap.lt_size hS
  have nd : s.heap.objs.size ≠ S := Nat.ne_of_gt lS
  unfold collect; refine wpAny_bind (wpAny_runValue (codeAny_builtin F.entry_proto_collect ?_)); rw [Around.under_plainId F.plain_proto_collect _]
  show wpAny _ A.in1 (newList [] >>= fun x => again (.builtin "list.__iadd__" ⟨[x, .ref S], []⟩)) _ _ s
  refine wpAny_bind (wpAny_newObj_type (wpAny_pure ⟨plainId_quiet F.plain_list_iadd _, codeAny_builtin F.entry_list_iadd ?_⟩)); rw [Around.under_plainId F.plain_list_iadd _]
  have d1 : (s.heap.push { cls := .type "list", data := .seq ([] : List Value).toArray }).get? S = some (stObj es ep t) := Heap.get?_push_of_some _ hS
  have S1 : (s.heap.push { cls := .type "list", data := .seq ([] : List Value).toArray }).get? s.heap.objs.size = some { cls := .type "list", data := .seq ([] : List Value).toArray } := Heap.get?_push_size _ rfl
  have same : Builtin.List.listSameRef (.ref s.heap.objs.size) (.ref S) = false := by simp [Builtin.List.listSameRef, nd]
  show wpAny _ A.in1 (Builtin.List.listExtendWith (.ref s.heap.objs.size) (.ref S) (.ref s.heap.objs.size)) _ _ _; unfold Builtin.List.listExtendWith
  refine wpAny_bind (wpAny_typeOf (T := "set") ⟨_, d1, rfl⟩ ?_)
  rw [if_neg (by rw [same]; decide)]
  refine wpAny_bind (st_iter d1 R (wpAny_bind (wpAny_holding ?_)))
  have n1 : (s.heap.push { cls := .type "list", data := .seq ([] : List Value).toArray }).objs.size = s.heap.objs.size + 1 := by rw [Heap.size_push]
  rw [n1]
  have I2 : ((s.heap.push { cls := .type "list", data := .seq ([] : List Value).toArray }).push (siObj 0 0 S es.size ep)).get? (s.heap.objs.size + 1) = some (siObj 0 0 S es.size ep) := by rw [← n1]; exact Heap.get?_push_size _ rfl
  have d2 : ((s.heap.push { cls := .type "list", data := .seq ([] : List Value).toArray }).push (siObj 0 0 S es.size ep)).get? S = some (stObj es ep t) := Heap.get?_push_of_some _ d1
  have S2 : ((s.heap.push { cls := .type "list", data := .seq ([] : List Value).toArray }).push (siObj 0 0 S es.size ep)).get? s.heap.objs.size = some { cls := .type "list", data := .seq ([] : List Value).toArray } := Heap.get?_push_of_some _ S1
  have te : Shared.TypeIs { s with heap := (s.heap.push { cls := .type "list", data := .seq ([] : List Value).toArray }).push (siObj 0 0 S es.size ep) } (.ref S) "set" := ⟨_, d2, rfl⟩
  unfold Builtin.List.listLengthHint; refine wpAny_bind (wpAny_specialOf (T := "set") te PySem.F.slot_set_len.lookup ?_)
  (generalize hid : ("set.__len__" : String) = id0; (fail_if_success (clear hid id0)); wp_delta; rw [show splitId id0 = some ("set", "__len__") from by subst hid; decide +kernel]; subst hid)
  refine wpAny_bind (wpAny_isInstance (T := "set") (b := true) te st_sub ?_)
  rw [if_neg (by decide)]; rw [if_pos (by decide +kernel)]
  refine wpAny_bind (wpAny_typeOf (T := "set") te (wpAny_pure ?_))
  rw [if_pos (by decide +kernel)]
  refine wpAny_bind (wpAny_rule (wpAny_bind ?_))
  have S3 := Heap.get?_update_self (Obj.mapSeq (·.push Value.none)) S2 rfl
  show wpAny _ A.in1 (updateSeq s.heap.objs.size (·.push .none) >>= fun _ => updateSeq s.heap.objs.size (·.pop)) _ _ _; refine wpAny_bind (wpAny_updateSeq S2 rfl (wpAny_updateSeq S3 rfl ?_))
  have S4 := Heap.get?_update_self (Obj.mapSeq (·.pop)) S3 rfl
  have oth : ∀ b o, b ≠ s.heap.objs.size → ((s.heap.push { cls := .type "list", data := .seq ([] : List Value).toArray }).push (siObj 0 0 S es.size ep)).get? b = some o → ((((s.heap.push { cls := .type "list", data := .seq ([] : List Value).toArray }).push (siObj 0 0 S es.size ep)).update s.heap.objs.size (Obj.mapSeq (·.push Value.none))).update s.heap.objs.size (Obj.mapSeq (·.pop))).get? b = some o :=
    fun b o nb e => (Heap.get?_update_other _ _ (Ne.symm nb)).trans ((Heap.get?_update_other _ _ (Ne.symm nb)).trans e)
  have neI : S ≠ s.heap.objs.size + 1 := Nat.ne_of_lt (Nat.lt_succ_of_lt lS)
  have W := (si_walks (prog := prog) (w := w) (A := A.in1) hh (s.heap.objs.size + 1) S neI (ep := ep) R hled).toS
  have nS : s.heap.objs.size ∉ [s.heap.objs.size + 1, S] := by
    simp only [List.mem_cons, List.mem_nil_iff, or_false, not_or]
    exact ⟨Nat.ne_of_lt (Nat.lt_succ_self _), nd⟩
  have z0 : fsOf w sl 0 = 0 := by unfold fsOf; rw [R.zero, ite_self]
  refine wpAny_pure ⟨plainId_quiet F.plain_extend_loop _, codeAny_extend_loopS W hz _ nS _ es.size 0 _ _ _ rfl (Nat.zero_le _) ⟨Nat.zero_le _, ?_, oth S _ nd.symm d2⟩ S4 (ItemsOf.nil _) fun s' acc' c' hm hS' hacc => wpAny_bind (wpAny_load hS' (wpAny_pure (hQ s' acc' ⟨fun b o _ e => ?_, hm.gens, hm.drawn, hm.os, hm.toks⟩ hacc)))⟩
  · rw [z0]
    exact oth _ _ (Nat.ne_of_gt (Nat.lt_succ_self _)) I2
  · have lb := Heap.lt_size e
    refine hm.heap b o (fun q => ?_) (oth b o (Nat.ne_of_lt lb) (Heap.get?_push_of_some _ (Heap.get?_push_of_some _ e)))
    rcases List.mem_cons.mp q with q | q
    · exact Nat.ne_of_lt lb q
    · exact Nat.ne_of_lt (Nat.lt_succ_of_lt lb) (List.mem_singleton.mp q)
theorem perm_ints {us vs : List Value} (p : us.Perm vs) : ∀ {ns : List Int}, IntsAre vs ns → ∃ ns1, IntsAre us ns1 ∧ ns1.Perm ns := by
  induction p with
  | nil => intro ns h; exact ⟨ns, h, List.Perm.refl _⟩
  | cons x _ ih =>
    intro ns h
    cases h with
    | cons n t r =>
      obtain ⟨m, a, b⟩ := ih r
      exact ⟨n :: m, .cons n t a, b.cons n⟩
  | swap x y l =>
    intro ns h
    cases h with
    | cons n t r =>
      cases r with
      | cons n2 t2 r2 => exact ⟨_, .cons n2 t2 (.cons n t r2), List.Perm.swap _ _ _⟩
  | trans _ _ i1 i2 =>
    intro ns h
    obtain ⟨m, a, b⟩ := i2 h
    obtain ⟨m2, a2, b2⟩ := i1 a
    exact ⟨m2, a2, b2.trans b⟩
theorem items_list {P : Nat → Value → Prop} {ys : List Value} {acc : Array Value} (h : ItemsOf P acc ys.length) (hp : ∀ i v, P i v → ys[i]? = some v) : acc.toList = ys := by
  refine List.ext_getElem? fun i => ?_
  by_cases hi : i < acc.size
  · have e : acc.toList[i]? = some acc[i] := by rw [Array.getElem?_toList]; exact Array.getElem?_eq_getElem hi
    rw [e]
    exact (hp i _ (h.2 i _ (Array.getElem?_eq_getElem hi))).symm
  · rw [List.getElem?_eq_none (by rw [Array.length_toList]; omega), List.getElem?_eq_none (by have := h.1; omega)]
theorem st_sorted {S : Addr} {es : Array (Int × Value)} {ep : Nat} {t : SetTable} {sl : Nat → Nat} {ns : List Int} {Q : Value → Shared → Prop} (hh : A.handled = none) (hS : s.heap.get? S = some (stObj es ep t)) (R : Rise t es.size sl) (hled : t.led = !byT w) (h64 : es.size < 64) (hI : IntsAre (es.toList.map (·.2)) ns)
    (h : ∀ (s' : Shared) (h' : Heap) (a : Addr) (out : List Value) (e : Nat) (ns' : List Int), (∀ b o, s.heap.get? b = some o → h'.get? b = some o) → S < a → h'.get? a = some (seqObj "list" out.toArray e) → IntsAre out ns' → ns'.Perm ns → ns'.Pairwise (· ≤ ·) → Q (.ref a) { s with heap := h', toks := s'.toks }) : wpAny (model prog w) A (call (.builtin "sorted") [.ref S]) Q E s := by
  have hz : es.size ≤ sizeLine := by rw [sizeLine_eq]; omega
  refine Calls.call_function_entry kind_sorted plain_sorted entry_sorted (args_sorted1 _) ?_; unfold Builtin.«sorted»
  refine wpAny_bind (m := checkCount "sorted" 1 1 _) (wpAny_pure (wpAny_bind (st_collect hh hS R hled hz fun s' acc hm ha => ?_)))
  have ea : acc.toList = (ordOf w S ep es).toList.map (·.2) := by
    refine items_list (P := fun i v => ((ordOf w S ep es)[i]?).map (·.2) = some v) (by rw [List.length_map, Array.length_toList, ord_size]; exact ha) fun i v hv => ?_
    rw [List.getElem?_map, Array.getElem?_toList]
    exact hv
  have hp : (acc.toList).Perm (es.toList.map (·.2)) := by rw [ea]; exact (ord_perm w S ep es).map _
  obtain ⟨ns1, i1, p1⟩ : ∃ ns1, IntsAre acc.toList ns1 ∧ ns1.Perm ns := perm_ints hp hI
  have l1 : acc.toList.length < 64 := by rw [hp.length_eq, List.length_map, Array.length_toList]; exact h64
  skip; refine wpAny_bind (wpAny_newList ?_ (by rw [sizeLine_eq]; omega))
  have o1 : (s'.heap.push (seqObj "list" acc.toList.toArray 0)).get? s'.heap.objs.size = some (seqObj "list" acc.toList.toArray 0) := Heap.get?_push_size _ rfl
  have le : S < s'.heap.objs.size := Heap.lt_size (hm.heap S _ (by simp) hS)
  refine wpAny_bind (wpAny_holding (wpAny_call_entry slot_list_sort ⟨_, o1, rfl⟩ entry_list_sort (list_sort_tree o1 i1 l1 fun out ns' a1 a2 a3 => ⟨_, rfl, wpAny_pure ⟨_, rfl, ?_⟩⟩) (args_list_sort _)))
  obtain ⟨h', g', d', t', q'⟩ := s'
  skip; have eg : g' = s.gens := hm.gens
  skip; have ed : d' = s.drawn := hm.drawn
  have eo : q' = s.os := hm.os
  subst eg ed eo
  obtain ⟨e, he⟩ := sortedHeap_at (out := out) o1
  refine h ⟨h', s.gens, s.drawn, t', s.os⟩ _ _ out.toList e ns' (fun b o eb => ?_) le (by simpa using he) a1 (a2.trans p1) a3
  have hb := hm.heap b o (by simp) eb
  have lb := Heap.lt_size hb
  refine (sortedHeap_old (Nat.ne_of_lt lb) ?_).trans (Heap.get?_push_of_some _ hb)
  rw [Heap.size_push]
  exact Nat.lt_succ_of_lt lb
end
def tabN (led : Bool) (k : Nat) : SetTable := { mask := if k < 5 then 7 else 31, place := Array.range k, dummies := #[], finger := 0, led := led, moves := if k < 5 then 0 else 1, plain := true }
def esOf (ts : List Tok) : Array (Int × Value) := (ts.zipIdx.map fun p => ((p.2 : Int), Value.int (p.2 : Int) p.1)).toArray
theorem esOf_size (ts : List Tok) : (esOf ts).size = ts.length := by unfold esOf; simp
theorem esOf_push (ts : List Tok) (t : Tok) : esOf (ts ++ [t]) = (esOf ts).push ((ts.length : Int), .int (ts.length : Int) t) := by
  unfold esOf
  rw [List.zipIdx_append]
  simp
theorem esOf_hash (ts : List Tok) : (esOf ts).map (·.1) = ((List.range ts.length).map fun (i : Nat) => (i : Int)).toArray := by
  apply Array.ext'
  unfold esOf
  rw [Array.toList_map]
  refine List.ext_getElem? fun i => ?_
  by_cases h : i < ts.length
  · simp [h]
  · simp [h]
theorem tabN_rise (led : Bool) : ∀ k, k ≤ 8 → Rise (tabN led k) k id
  | k, hk => by
    refine ⟨?_, rfl, rfl, fun i hi => ?_, fun i hi => ⟨i, ?_, rfl⟩⟩
    · have : ∀ k, k < 9 → ∀ b, (tabN b k).fits k = true := by decide +kernel
      exact this k (by omega) led
    · have : ∀ k, k < 9 → ∀ i, i < 9 → i ≤ k → SetTable.below (Array.range k) i = i := by decide +kernel
      exact this k (by omega) i (by omega) hi
    · show (Array.range k)[i]? = some i
      simp [hi]
theorem insert_end {α : Type} (xs : Array α) (x : α) : SetTable.insertAt xs xs.size x = xs.push x := by
  unfold SetTable.insertAt
  simp
theorem layN (led : Bool) (ts : List Tok) (x : Value) (h : ts.length < 8) : layNew (tabN led ts.length) (esOf ts) (ts.length : Int) x = ((esOf ts).push ((ts.length : Int), x), { tabN led ts.length with place := Array.range (ts.length + 1) }, false, false) := by
  have f : ∀ k, k < 8 → ∀ b, (tabN b k).freeSlot (k : Int) = some (k, false) := by decide +kernel
  have g : ∀ k, k < 8 → ∀ b, (tabN b k).put k = ({ tabN b k with place := Array.range (k + 1) }, k) := by decide +kernel
  have i : ∀ k, k < 8 → ∀ b, ({ tabN b k with place := Array.range (k + 1) } : SetTable).fits (k + 1) = true := by decide +kernel
  unfold layNew
  rw [f _ h]
  dsimp only
  rw [g _ h]
  dsimp only
  have e : SetTable.insertAt (esOf ts) ts.length ((ts.length : Int), x) = (esOf ts).push ((ts.length : Int), x) := by
    have := insert_end (esOf ts) ((ts.length : Int), x)
    rw [esOf_size] at this
    exact this
  rw [e, Array.size_push, esOf_size]
  unfold SetTable.orStandIn
  rw [i _ h, if_pos rfl]
  rfl
theorem fullN (led : Bool) (k : Nat) (h : k < 8) : ({ tabN led k with place := Array.range (k + 1) } : SetTable).tooFull = decide (k = 4) := by
  have : ∀ k, k < 8 → ∀ b, ({ tabN b k with place := Array.range (k + 1) } : SetTable).tooFull = decide (k = 4) := by decide +kernel
  exact this k h led
theorem tabN_next (led : Bool) (k : Nat) (h : k ≠ 4) : ({ tabN led k with place := Array.range (k + 1) } : SetTable) = tabN led (k + 1) := by
  unfold tabN
  by_cases hk : k < 5
  · rw [if_pos hk, if_pos hk, if_pos (show k + 1 < 5 by omega), if_pos (show k + 1 < 5 by omega)]
  · rw [if_neg hk, if_neg hk, if_neg (show ¬ k + 1 < 5 by omega), if_neg (show ¬ k + 1 < 5 by omega)]
theorem filter_take {α : Type} (xs : List α) : ∀ k, k ≤ xs.length → (List.range k).filterMap (xs[·]?) = xs.take k
  | 0, _ => rfl
  | k + 1, h => by
    have e : xs[k]? = some (xs[k]'(by omega)) := List.getElem?_eq_getElem (by omega)
    rw [List.range_succ, List.filterMap_append, filter_take xs k (by omega), List.take_add_one, e]
    simp [e]
theorem filter_all {α : Type} (xs : Array α) : (Array.range xs.size).filterMap (xs[·]?) = xs := by
  apply Array.ext'
  rw [Array.toList_filterMap, Array.toList_range]
  have := filter_take xs.toList xs.size (by simp)
  rw [List.take_of_length_le (by simp)] at this
  simpa using this
theorem relayN (led : Bool) (es : Array (Int × Value)) (hn : es.size = 5) (hh : es.map (·.1) = #[0, 1, 2, 3, 4]) : relayAll { tabN led 4 with place := Array.range 5 } es (SetTable.grown es.size) = (es, tabN led 5, false) := by
  have f : ∀ b, ({ tabN b 4 with place := Array.range 5 } : SetTable).relaid #[0, 1, 2, 3, 4] (SetTable.grown 5) = some (tabN b 5, Array.range 5) := by decide +kernel
  have g : ∀ b, (tabN b 5).fits 5 = true := by decide +kernel
  unfold relayAll
  rw [hh, hn, f]
  dsimp only
  have e : (Array.range 5).filterMap (es[·]?) = es := by rw [← hn]; exact filter_all es
  rw [e, hn, g, if_pos (by decide +kernel)]
section
variable {prog : Program} {w : World} {A : Around} {E : Value → Shared → Prop} {s : Shared}
theorem elemsN (ts : List Tok) (h : ts.length ≤ 8) : ElemsOf (intKind prog w) (esOf ts).toList := by
  intro e he
  unfold esOf at he
  simp only [List.mem_map] at he
  obtain ⟨⟨t, i⟩, hi, rfl⟩ := he
  have hlt : i < ts.length := by
    have := List.mem_zipIdx hi
    omega
  refine ⟨⟨(i : Int), intKind_is _ _ _ _, ?_⟩, rfl⟩
  have : ∀ i : Nat, i < 8 → (i : Int) = (intKind prog w).hash (i : Int) := by
    intro i hi
    show (i : Int) = PySem.hashInt (i : Int)
    revert i
    decide +kernel
  exact this i (by omega)
theorem noneN (ts : List Tok) : (esOf ts).toList.findIdx? (fun e => (intKind prog w).is (ts.length : Int) e.2) = none := by
  rw [List.findIdx?_eq_none_iff]
  intro e he
  unfold esOf at he
  simp only [List.mem_map] at he
  obtain ⟨⟨t, i⟩, hi, rfl⟩ := he
  have hlt : i < ts.length := by
    have := List.mem_zipIdx hi
    omega
  show decide _ = false
  simp
  omega
theorem addN {S : Addr} {ts : List Tok} {t : Tok} {led : Bool} {ep : Nat} {Q : Bool → Shared → Prop} (hl : ts.length < 8) (ho : s.heap.get? S = some (stObj (esOf ts) ep (tabN led ts.length)))
    (h : ∀ h' ep', Heap.SameBut S s.heap h' → h'.get? S = some (stObj (esOf (ts ++ [t])) ep' (tabN led (ts.length + 1))) → Q true { s with heap := h' }) : wpAny (model prog w) A (setAddHashed S (.int ts.length t) ((intKind prog w).hash (ts.length : Int))) Q E s := by
  have R := tabN_rise led ts.length (by omega)
  have hf : (tabN led ts.length).fits (esOf ts).size = true := by rw [esOf_size]; exact R.fits
  have hk : (intKind prog w).hash (ts.length : Int) = (ts.length : Int) := by
    have : ∀ i : Nat, i < 8 → PySem.hashInt (i : Int) = (i : Int) := by decide +kernel
    exact this _ hl
  have hsc : (Value.int (ts.length : Int) t).scannable = true := rfl
  skip; unfold setAddHashed setAddHashedIn
  refine wpAny_holding (wpAny_bind (wpAny_setState_of ho rfl hf ?_))
  dsimp only
  rw [byScan_of hsc (by rw [esOf_size]; unfold scanBound; omega) (elemsN (prog := prog) (w := w) ts (by omega)), if_pos rfl]
  unfold setAddByScan
  refine wpAny_bind (wpAny_bind (wpAny_rule (wpAny_bind (wpAny_setScan_of (intKind_is _ _ _ _) ho rfl hf (elemsN ts (by omega)) ?_))))
  rw [noneN]
  dsimp only
  rw [hk, layN led ts _ hl]
  dsimp only
  refine wpAny_bind (wpAny_pure ?_)
  rw [if_pos (show (tabN led ts.length).plain = true from rfl), hashByValue_scannable 8 hsc]
  refine wpAny_bind (wpAny_pure ?_)
  rw [show plainKind (Value.int (ts.length : Int) t) = true from rfl, if_pos rfl, ← esOf_push]
  have sz : (esOf (ts ++ [t])).size = ts.length + 1 := by rw [esOf_size, List.length_append]; rfl
  refine wpAny_bind (wpAny_storeSet_of ho rfl ?_ (by rw [sz, sizeLine_eq]; omega))
  have o1 : (s.heap.update S (Obj.putSet (esOf (ts ++ [t])) { tabN led ts.length with place := Array.range (ts.length + 1) })).get? S = some (stObj (esOf (ts ++ [t])) (ep + 1) { tabN led ts.length with place := Array.range (ts.length + 1) }) := Heap.get?_update_self _ ho rfl
  rw [fullN led _ hl]
  by_cases h4 : ts.length = 4
  · rw [h4] at o1 sz ⊢
    rw [if_pos (by decide)]
    have hs5 : (esOf (ts ++ [t])).map (·.1) = #[0, 1, 2, 3, 4] := by rw [esOf_hash, List.length_append, h4]; rfl
    rw [relayN led _ sz hs5]
    refine wpAny_bind (wpAny_pure ?_)
    refine wpAny_bind (wpAny_storeSet_of o1 rfl ?_ (by rw [sz, sizeLine_eq]; omega))
    rw [h4] at h
    exact wpAny_pure (wpAny_pure (h _ (ep + 1 + 1) ((Heap.SameBut.update ..).trans (Heap.SameBut.update ..)) (Heap.get?_update_self _ o1 rfl)))
  · rw [if_neg (by simp [h4])]
    rw [tabN_next led _ h4] at o1 ⊢
    exact wpAny_pure (wpAny_pure (h _ _ (Heap.SameBut.update ..) o1))
end
section
variable {w : World} {prog : Program} {A : Around}
variable {R : Result → Shared → Prop} {I : Addr} {fp wr : List Addr} {G : Array GenState → Array GenState → Prop} {n : Nat} {P : Nat → Value → Prop} {St : Nat → Shared → Prop}
theorem set_loopN (W : WalksS prog w A.in1 I fp wr G n P St) (S : Addr) (hSf : S ∉ fp) (led : Bool) (hval : ∀ i v, P i v → ∃ t, v = .int (i : Nat) t) (hb : n ≤ 8) :
    ∀ (k i : Nat) (s : Shared) (ts : List Tok) (ep : Nat), n - i = k → i ≤ n → ts.length = i → St i s → s.heap.get? S = some (stObj (esOf ts) ep (tabN led ts.length)) →
      (∀ s' ts' ep', Moved (S :: wr) G s s' → ts'.length = n → s'.heap.get? S = some (stObj (esOf ts') ep' (tabN led n)) → R (.ok (.ret .none)) s') →
      codeAny (model prog w) A (Code.builtin "set.update.loop" ⟨[.ref S, .ref I], []⟩) R s := by
  skip; have hSw : S ∉ wr := fun h => hSf (W.sub _ h)
  have sub2 : ∀ b ∈ wr, b ∈ S :: wr := fun b hb => List.mem_cons_of_mem _ hb
  intro k
  induction k with
  | zero =>
    intro i s ts ep hk hi hts hst hS hR
    obtain rfl : i = n := by omega
    refine codeAny_builtin PyProof.Rows.F.entry_set_update_loop ?_; rw [Around.under_plainId PyProof.Rows.F.plain_set_update_loop _]
    show wpAny _ A.in1 (pyNext (.ref I) >>= _) _ _ s; refine wpAny_bind (W.done s _ _ hst fun s' hm => ?_)
    refine wpAny_pure (hR s' ts ep (hm.mono sub2) hts ?_)
    rw [hts] at hS
    exact hm.heap S _ hSw hS
  | succ k ih =>
    intro i s ts ep hk hi hts hst hS hR
    have hlt : i < n := by omega
    refine codeAny_builtin PyProof.Rows.F.entry_set_update_loop ?_; rw [Around.under_plainId PyProof.Rows.F.plain_set_update_loop _]
    show wpAny _ A.in1 (pyNext (.ref I) >>= _) _ _ s; refine wpAny_bind (W.item i s _ _ hlt hst fun v s' hP hst' hm => ?_)
    skip; obtain ⟨t, rfl⟩ := hval i v hP
    skip; have hS' := hm.heap S _ hSw hS
    show wpAny _ A.in1 (holding [Value.int (i : Nat) t] (setAdd S (.int (i : Nat) t)) >>= _) _ _ s'
    refine wpAny_bind (wpAny_holding ?_); unfold setAdd; refine wpAny_holding ?_
    refine wpAny_bind ((intKind prog w).pyHash (k := (i : Int)) (intKind_is _ _ _ _) ?_)
    subst hts
    refine addN (s := { s' with toks := s'.toks + 1 }) (ep := ep) (led := led) (by omega) hS' fun h' ep' hsb hS2 => ?_
    refine wpAny_pure ⟨plainId_quiet PyProof.Rows.F.plain_set_update_loop _, ih (ts.length + 1) _ (ts ++ [t]) ep' (by omega) hlt (by rw [List.length_append]; rfl) (W.frame _ s' _ _ hst' (by first | exact Nat.le_succ _ | exact Nat.le_refl _) fun b hb o e => ?_) (by rw [List.length_append]; exact hS2) fun s'' ts' ep'' hm'' hl'' hS'' => ?_⟩
    · skip; rw [hsb.2 b (fun h : b = S => hSf (by rw [← h]; exact hb))]; exact e
    · refine hR s'' ts' ep'' (Moved.trans W.gtrans ((hm.mono sub2).then_heap (by first | exact Nat.le_succ _ | exact Nat.le_refl _) fun b o hb e => ?_) hm'') hl'' hS''
      skip; rw [hsb.2 b (fun h : b = S => hb (by rw [h]; exact List.mem_cons_self))]; exact e
end
section
variable {prog : Program} {w : World} {A : Around} {E : Value → Shared → Prop} {s : Shared}
theorem set_newB (a : Value) {QN : Value → Shared → Prop} (h : QN (.ref s.heap.objs.size) { s with heap := s.heap.push (newSet (!byT w)) }) :
    codeAny (model prog w) A (.call (.builtin "set.__new__") ⟨[.type "set", a], []⟩) (wants QN E) s := by
  refine codeAny_of_tree ?_; show wpAny _ A.in1 (do checkBuiltinCall "set.__new__" ⟨[.type "set", a], []⟩; again (.builtin "set.__new__" ⟨[.type "set", a], []⟩)) _ _ s
  refine wpAny_bind (wpAny_of_eq (PySem.F.newCall_set_1 a) (wpAny_pure ⟨plainId_quiet PySem.F.plain_set_new _, codeAny_builtin PySem.F.entry_set_new ?_⟩)); rw [Around.under_plainId PySem.F.plain_set_new _]
  skip; unfold Builtin.«set.__new__» Builtin.Frozenset.newClass
  have hsub := sub_set_self
  skip; obtain ⟨hp, g, d, tk, os⟩ := s
  dsimp only; wp_walk
  refine wpAny_askSetting (wpAny_pure ?_); dsimp only; simp only [newObj]
  skip; refine wpAny_bind (wpAny_alloc (wpAny_pure (wpAny_pure h)))
set_option maxHeartbeats 8000000 in
theorem call_setN {l : Addr} {items : Array Value} {Q : Value → Shared → Prop} (hh : A.handled = none) (hl : s.heap.IsList l items) (hi : ∀ (i : Nat) (v : Value), items[i]? = some v → ∃ t, v = .int (i : Nat) t) (hb : items.size ≤ 8)
    (h : ∀ (h' : Heap) (tk : Nat) (ts : List Tok) (ep : Nat), ts.length = items.size → h'.get? s.heap.objs.size = some (stObj (esOf ts) ep (tabN (!byT w) items.size)) → (∀ b o, b < s.heap.objs.size → s.heap.get? b = some o → h'.get? b = some o) → Q (.ref s.heap.objs.size) { s with heap := h', toks := tk }) :
    wpAny (model prog w) A (call (Value.type "set") [.ref l]) Q E s := by
  obtain ⟨c, tl, hmro⟩ := PySem.F.called_set.mro
  have hmade := PySem.F.called_set.made
  have hsub := PySem.F.called_set.sub
  refine wpAny_call (codeAny_of_tree ?_); show wpAny _ _ (callAny (.type "set") _) _ _ _; refine wpAny_pure ⟨Code.quiet_builtin _ (by decide +kernel), codeAny_builtin PySem.F.entry_type_call ?_⟩
  skip; rw [Around.under_plain (weight_type_call_type "set" [.ref l] []) rfl]
  have h1 := PySem.F.called_set.notType
  have h2 := PySem.F.called_set.canCreate
  have hct := PySem.F.typeCall_set_1 (.ref l)
  skip; repeat (any_goals (first | assumption | wp_step))
  refine codeAny_mono (set_newB (.ref l) (E := E) (QN := fun obj s₁ => obj = .ref s.heap.objs.size ∧ s₁ = { s with heap := s.heap.push (newSet (!byT w)) }) ⟨rfl, rfl⟩) fun r s₁ hr => ?_
  cases r with
  | error e => exact hr
  | ok fl =>
    cases fl with
    | ret obj =>
      obtain ⟨rfl, rfl⟩ := hr
      have hS : (s.heap.push (newSet (!byT w))).get? s.heap.objs.size = some (newSet (!byT w)) := Heap.get?_push_size _ rfl
      have hT : Shared.TypeIs { s with heap := s.heap.push (newSet (!byT w)) } (.ref s.heap.objs.size) "set" := ⟨_, hS, rfl⟩
      have hli := PySem.F.called_set.init.lookup
      have hbi := PySem.F.called_set.init.bind (.ref s.heap.objs.size)
      skip; repeat (any_goals (first | assumption | wp_step))
      refine codeAny_mono (codeAny_call_builtin (R := wants (fun r s₂ => r = .none ∧ ∃ h' tk ts ep, s₂ = { s with heap := h', toks := tk } ∧ ts.length = items.size ∧ h'.get? s.heap.objs.size = some (stObj (esOf ts) ep (tabN (!byT w) items.size)) ∧ (∀ b o, b < s.heap.objs.size → s.heap.get? b = some o → h'.get? b = some o)) E) PySem.F.called_set.init.plain PySem.F.entry_set_init (check_set_init_1 hT ?_)) fun r₂ s₂ hr₂ => ?_
      · obtain ⟨⟨ocls, odict, odata, oslots⟩, hol, hcl, nl, hdl⟩ := hl
        replace hcl : ocls = .type "list" := hcl
        replace hdl : odata = .seq items nl := hdl
        subst hcl hdl
        have hol' : (s.heap.push (newSet (!byT w))).get? l = some { cls := .type "list", dict := odict, data := .seq items nl, slots := oslots } := Heap.get?_push_of_some _ hol
        have hsls := PySem.F.sub_list_set
        have hslf := PySem.F.sub_list_frozenset
        skip; have hne : (Value.type "list" == Value.type "dict") = false := by decide
        have hl1 : (s.heap.push (newSet (!byT w))).IsList l items := ⟨_, hol', rfl, nl, rfl⟩
        unfold Builtin.«set.__init__» noKeywords Builtin.Frozenset.updateFrom; generalize hPI : pyIter = PI; wp_walk; subst hPI
        refine wpAny_pyIter_list hl1 (wpAny_bind (wpAny_runValue ?_))
        skip; have hlS : l < s.heap.objs.size := Heap.lt_size hol
        have hh3 : A.in1.in1.in1.handled = none := hh
        have hneI : l ≠ (s.heap.push (newSet (!byT w))).objs.size := by rw [Heap.size_push]; exact Nat.ne_of_lt (Nat.lt_succ_of_lt hlS)
        have hSf : s.heap.objs.size ∉ [(s.heap.push (newSet (!byT w))).objs.size, l] := by
          rw [Heap.size_push]; simp only [List.mem_cons, List.mem_nil_iff, or_false, not_or]
          skip; exact ⟨Nat.ne_of_lt (Nat.lt_succ_self _), Nat.ne_of_gt hlS⟩
        refine set_loopN ((Walks.list hh3 _ l hneI items).toS) s.heap.objs.size hSf (!byT w) hi hb (items.size - 0) 0 _ [] 0 (by omega) (Nat.zero_le _) rfl ⟨⟨_, Heap.get?_push_size _ rfl, rfl, rfl⟩, hl1.push _⟩ ?hS0 ?hR
        case hS0 => exact Heap.get?_push_of_some _ hS
        case hR =>
          intro s' ts' ep' hm hts hS'
          obtain ⟨h', g', d', t', o'⟩ := s'
          skip; have eg : g' = s.gens := hm.gens
          skip; have ed : d' = s.drawn := hm.drawn
          have eo : o' = s.os := hm.os
          subst eg ed eo
          show wpAny _ _ _ _ _ _; refine wpAny_pure ?_; show wpAny _ _ (ret Value.none) _ _ _
          refine wpAny_pure ⟨rfl, h', t', ts', ep', rfl, hts, hS', fun b o hb e => ?_⟩
          have hb2 : b ≠ (s.heap.push (newSet (!byT w))).objs.size := by rw [Heap.size_push]; exact Nat.ne_of_lt (Nat.lt_succ_of_lt hb)
          refine hm.heap b o ?_ (Heap.get?_push_of_some _ (Heap.get?_push_of_some _ e))
          simp only [List.mem_cons, List.mem_nil_iff, or_false, not_or]
          exact ⟨Nat.ne_of_lt hb, hb2⟩
      · cases r₂ with
        | error e => exact hr₂
        | ok fl₂ =>
          cases fl₂ with
          | ret r =>
            skip; obtain ⟨rfl, h', tk, ts, ep, rfl, hts, hS', hk'⟩ := hr₂
            skip; repeat (any_goals (first | assumption | wp_step))
            exact h _ _ _ _ hts hS' hk'
          | _ => exact hr₂.elim
    | _ => exact hr.elim
end
def numsN (n : Nat) : List Int := (List.range n).map fun (i : Nat) => (i : Int)
theorem numsN_len (n : Nat) : (numsN n).length = n := by unfold numsN; rw [List.length_map, List.length_range]
theorem numsN_at (n i : Nat) (h : i < n) : (numsN n)[i]? = some (i : Int) := by unfold numsN; simp [h]
theorem numsN_rise (n : Nat) : (numsN n).Pairwise (· ≤ ·) := by
  unfold numsN
  rw [List.pairwise_map]
  exact (List.pairwise_lt_range (n := n)).imp fun h => by omega
theorem numsN_vals {n : Nat} {its : List Value} (r : Vals ((numsN n).map V.int) its) (i : Nat) (v : Value) (h : its.toArray[i]? = some v) : ∃ t, v = .int (i : Nat) t := by
  have hl := r.length
  rw [List.length_map, numsN_len] at hl
  have hv : its[i]? = some v := by simpa using h
  have hi : i < its.length := by
    rw [List.getElem?_eq_some_iff] at hv
    exact hv.1
  obtain ⟨t, e⟩ := IntsAre.int_at (intsAre_of r) i v hv
  rw [List.getD_eq_getElem?_getD, numsN_at n i (by omega)] at e
  exact ⟨t, e⟩
theorem esOf_ints (ts : List Tok) : IntsAre ((esOf ts).toList.map (·.2)) (numsN ts.length) := by
  have g : ∀ (ts : List Tok) (k : Nat), IntsAre ((ts.zipIdx k).map fun p => Value.int (p.2 : Int) p.1) ((List.range' k ts.length).map fun (i : Nat) => (i : Int)) := by
    intro ts
    induction ts with
    | nil => intro k; exact .nil
    | cons t ts ih =>
      intro k
      exact .cons _ _ (ih (k + 1))
  have := g ts 0
  unfold esOf numsN
  rw [List.range_eq_range']
  rw [List.map_map]
  exact this
section
variable {X : Cx}
def rSortSet (K : PySem.W.Frag) : List V → Hp → VK → Prop := fun xs H Q => ∃ (p : Addr) (n : Nat), xs = [.ref p] ∧ SqL K H p ((numsN n).map V.int) ∧ n ≤ 8 ∧ ∀ l, H l = none → Q (.ref l) (upd H l (.lst ((numsN n).map V.int)))
theorem pe_sortSet {a : Expr} {ta : TA} {p p' pos pos' : Pos} (hc : X.calm = true) (hg : Gl X "sorted") (hm : X.mg "sorted" = none) (hg2 : Gl X "set") (hm2 : X.mg "set" = none) (ha : PA X [a] ta) (hs : starEach [a] X.env = [(false, eval a X.env)] := by rfl)
    (ht : starEach [.Call (.Name "set" p') [a] [] pos'] X.env = [(false, eval (.Call (.Name "set" p') [a] [] pos') X.env)] := by rfl) :
    PE X (.Call (.Name "sorted" p) [.Call (.Name "set" p') [a] [] pos'] [] pos) (tCB (rSortSet X.K) ta) := by
  intro pins s σ H Q I h
  refine wpAny_Call_Name_kw (ld_blt I hg hm PyProof.Rows.boot_sorted (PyProof.Rows.callWith_builtin1 ?_ ht rfl) (by decide) (by decide))
  rw [ht]
  show wpAny _ _ (spliced ((false, eval (.Call (.Name "set" p') [a] [] pos') X.env) :: backTo pos [])) _ _ s
  refine Calls.spliced_cons (wpAny_Call_Name_kw (ld_blt I hg2 hm2 boot_set (PyProof.Rows.callWith_type1 (thn (ha pos' pins s σ H _ I h) fun us s1 ⟨vs, H1, I1, r1, q1⟩ => ?_) hs rfl) (by decide) (by decide)))
  obtain ⟨p1, n, e, hx, hz, q⟩ := q1
  subst e
  obtain ⟨u, rfl, ru⟩ := vals1 r1
  cases ru
  obtain ⟨its, ri, pl, _⟩ := I1.list hx
  have hl := ri.length
  rw [List.length_map, numsN_len] at hl
  have hsz : its.toArray.size = n := by rw [List.size_toArray]; exact hl.symm
  refine call_setN (I1.ok.hd hc) pl.isList (numsN_vals ri) (by omega) fun h' tk ts ep hts hS hk => Calls.spliced_nil ?_
  have ez : (esOf ts).size = its.toArray.size := by rw [esOf_size]; exact hts
  have R : Rise (tabN (!byT X.w) its.toArray.size) (esOf ts).size id := by rw [ez]; exact tabN_rise _ _ (by omega)
  refine st_sorted (s := { s1 with heap := h', toks := tk }) (I1.ok.hd hc) hS R rfl (by omega) (esOf_ints ts) fun s' g' l out ex ns' hk2 hlt ho hI hp hw => ?_
  have en : ns' = numsN n := by
    rw [hts, hsz] at hp
    exact sorted_uniq hp (List.Perm.refl _) hw (numsN_rise n)
  subst en
  have kk : ∀ b u, s1.heap.get? b = some u → g'.get? b = some u := fun b u e => hk2 b u (hk b u (Heap.lt_size e) e)
  refine ⟨.ref l, upd H1 l (.lst ((numsN n).map V.int)), I1.laid (t' := s'.toks) kk (Nat.le_of_lt hlt) (show ObjOk X.prog X.w _ _ _ (.lst ((numsN n).map V.int)) from ⟨by rw [List.length_map, numsN_len, sizeLine_eq]; omega, out, ex, vals_ints hI, ho⟩), rfl, q l (I1.hok.fresh (Nat.le_of_lt hlt))⟩
theorem r_sortSet {K : PySem.W.Frag} {H : Hp} {Q : VK} {p : Addr} {n : Nat} (h : H p = some (.lst ((numsN n).map V.int))) (hn : n ≤ 8) (q : ∀ l H', H l = none → H' l = some (.lst ((numsN n).map V.int)) → Ext H H' → Q (.ref l) H') : rSortSet K [.ref p] H Q := ⟨p, n, rfl, SqL.of h, hn, fun l nl => q l _ nl upd_same (ext_upd nl)⟩
end
theorem items_ints {acc : Array Value} {n : Nat} (h : ItemsOf (fun i v => ∃ t, v = .int (0 + (i : Nat) * 1) t) acc n) : Vals ((numsN n).map V.int) acc.toList := by
  have g : ∀ (l : List Value) (k : Nat), (∀ (i : Nat) (v : Value), l[i]? = some v → ∃ t, v = .int ((k + i : Nat) : Int) t) → Vals (((List.range' k l.length).map fun (i : Nat) => (i : Int)).map V.int) l := by
    intro l
    induction l with
    | nil => intro k _; exact .nil
    | cons x l ih =>
      intro k hk
      obtain ⟨t, e⟩ := hk 0 x rfl
      refine .cons ⟨t, by rw [e]; rfl⟩ (ih (k + 1) fun i v hv => ?_)
      obtain ⟨t, e⟩ := hk (i + 1) v (by simpa using hv)
      exact ⟨t, by rw [e, Nat.add_assoc, Nat.add_comm 1 i]⟩
  have := g acc.toList 0 fun i v hv => by
    rw [Array.getElem?_toList] at hv
    obtain ⟨t, e⟩ := h.2 i v hv
    exact ⟨t, by rw [e]; congr 1; omega⟩
  rw [Array.length_toList, h.1] at this
  unfold numsN
  rw [List.range_eq_range']
  exact this
section
variable {X : Cx}
def rListRng : List V → Hp → VK → Prop := fun xs H Q => ∃ n : Nat, xs = [.int (n : Int)] ∧ n ≤ 1000 ∧ ∀ l, H l = none → Q (.ref l) (upd H l (.lst ((numsN n).map V.int)))
theorem pe_listRng {a : Expr} {ta : TA} {p p' pos pos' : Pos} (hc : X.calm = true) (hg : Gl X "list") (hm : X.mg "list" = none) (hg2 : Gl X "range") (hm2 : X.mg "range" = none) (ha : PA X [a] ta) (hs : starEach [a] X.env = [(false, eval a X.env)] := by rfl)
    (ht : starEach [.Call (.Name "range" p') [a] [] pos'] X.env = [(false, eval (.Call (.Name "range" p') [a] [] pos') X.env)] := by rfl) :
    PE X (.Call (.Name "list" p) [.Call (.Name "range" p') [a] [] pos'] [] pos) (tCB rListRng ta) := by
  intro pins s σ H Q I h
  refine wpAny_Call_Name_kw (ld_blt I hg hm PyProof.Rows.boot_list (PyProof.Rows.callWith_type1 ?_ ht rfl) (by decide) (by decide))
  rw [ht]
  show wpAny _ _ (spliced ((false, eval (.Call (.Name "range" p') [a] [] pos') X.env) :: backTo pos [])) _ _ s
  refine Calls.spliced_cons (wpAny_Call_Name_kw (ld_blt I hg2 hm2 boot_range (PyProof.Rows.callWith_type1 (thn (ha pos' pins s σ H _ I h) fun us s1 ⟨vs, H1, I1, r1, q1⟩ => ?_) hs rfl) (by decide) (by decide)))
  obtain ⟨n, e, hz, q⟩ := q1
  subst e
  obtain ⟨u, rfl, ru⟩ := vals1 r1
  obtain ⟨t, rfl⟩ := ru
  refine call_range_1 (Calls.spliced_nil ?_)
  have hn : Builtin.Range.rangeSize 0 (n : Int) 1 = n := by rw [rangeSize_one]; split <;> omega
  refine call_list_range (s := { s1 with heap := _, toks := _ }) (n := n) (I1.ok.hd hc) (IsRange.new ..) (small_one (by omega) (by omega) (by omega) (by omega)) hn (by omega) fun h' tk acc c' hk hS hacc => ?_
  have l0 : s1.heap.objs.size ≤ (s1.heap.push { cls := .type "range", data := .fields #[.int 0 s1.toks, .int (n : Int) t, .int 1 (s1.toks + 1)] }).objs.size := by rw [Heap.size_push]; exact Nat.le_succ _
  have kk : ∀ b o, s1.heap.get? b = some o → h'.get? b = some o := fun b o e => hk b o (Heap.get?_push_of_some _ e)
  exact ⟨.ref _, _, I1.laid (t' := tk) kk l0 (show ObjOk X.prog X.w _ _ _ (.lst ((numsN n).map V.int)) from ⟨by rw [List.length_map, numsN_len, sizeLine_eq]; omega, acc.toList, c', items_ints hacc, by simpa using hS⟩), rfl, q _ (I1.hok.fresh l0)⟩
theorem r_listRng {H : Hp} {Q : VK} {i : Int} (n : Nat) (e : i = n) (hn : n ≤ 1000) (q : ∀ l H', H l = none → H' l = some (.lst ((numsN n).map V.int)) → Ext H H' → Q (.ref l) H') : rListRng [.int i] H Q := ⟨n, by rw [e], hn, fun l nl => q l _ nl upd_same (ext_upd nl)⟩
end
end L2
set_option Elab.async false
set_option linter.all false
set_option maxRecDepth 100000
set_option maxHeartbeats 4000000
namespace L2
open PySem PySem.Spec PyProof.Rows PySem.W
section
variable {O : KeyOrd} {k : Nat → O.α} {n : Nat} {s : Shared} {cmp : Nat → Nat → (Bool → Shared → Prop) → Shared → Prop}
def kAt (k : Nat → O.α) (p : Array Nat) (i : Nat) : O.α := k (p[i]?.getD 0)
def OkP (n : Nat) (p : Array Nat) : Prop := p.toList.Perm (List.range n)
theorem OkP.size {p : Array Nat} (h : OkP n p) : p.size = n := by have := h.length_eq; simpa using this
theorem OkP.lt {p : Array Nat} (h : OkP n p) {i : Nat} (hi : i < n) : p[i]?.getD 0 < n := by
  have hs := h.size
  rw [Array.getElem?_eq_getElem (by omega), Option.getD_some]
  exact List.mem_range.mp (h.mem_iff.mp (by simp))
theorem OkP.of {p q : Array Nat} (h : OkP n p) (e : q.Perm p) : OkP n q := (Array.perm_iff_toList_perm.mp e).trans h
def Tells (k : Nat → O.α) (n : Nat) (cmp : Nat → Nat → (Bool → Shared → Prop) → Shared → Prop) (s : Shared) : Prop := ∀ i j, i < n → j < n → ∀ C : Bool → Shared → Prop, C (O.blt (k i) (k j)) s → cmp i j C s
theorem Tells.at (T : Tells k n cmp s) {p : Array Nat} (h : OkP n p) {i j : Nat} (hi : i < n) (hj : j < n) {C : Bool → Shared → Prop} (c : C (O.blt (kAt k p i) (kAt k p j)) s) : cmp (p.getD i 0) (p.getD j 0) C s := by
  rw [Array.getD_eq_getD_getElem?, Array.getD_eq_getD_getElem?]
  exact T _ _ (h.lt hi) (h.lt hj) C c
end
end L2
set_option Elab.async false
set_option linter.all false
set_option maxRecDepth 100000
set_option maxHeartbeats 4000000
namespace L2
open PySem PySem.Spec PyProof.Rows PySem.W
section
variable {prog : Program} {w : World} {A : Around} {E : Value → Shared → Prop} {s : Shared}
def RowsAt (h : Heap) : List Value → List (List Int) → Prop
  | [], [] => True
  | v :: vs, L :: Ls => (∃ a its, v = .ref a ∧ IsTup h a its ∧ IntsAre its.toList L ∧ L ≠ []) ∧ RowsAt h vs Ls
  | _, _ => False
theorem RowsAt.kept {h h' : Heap} {x : Addr} {zs : Array Value} {n : Nat} (hx : h.get? x = some (seqObj "list" zs n)) (e : ∀ b o, b ≠ x → h.get? b = some o → h'.get? b = some o) : ∀ {vs : List Value} {Ls : List (List Int)}, RowsAt h vs Ls → RowsAt h' vs Ls
  | [], [], _ => trivial
  | [], _ :: _, r => r.elim
  | _ :: _, [], r => r.elim
  | v :: vs, L :: Ls, ⟨⟨a, its, e1, e2, e3, e4⟩, r⟩ => by
    refine ⟨⟨a, its, e1, tup_at e2 fun o q => e a o (fun z => ?_) q, e3, e4⟩, RowsAt.kept hx e r⟩
    subst z
    obtain ⟨o, ho, hc, _⟩ := e2
    rw [hx] at ho
    cases ho
    exact absurd (show Value.type "list" = Value.type "tuple" from hc) (by decide)
theorem RowsAt.get {h : Heap} : ∀ {vs : List Value} {Ls : List (List Int)} {i : Nat}, RowsAt h vs Ls → i < vs.length → ∃ a its, vs.getD i .none = .ref a ∧ IsTup h a its ∧ IntsAre its.toList (Ls.getD i [])
  | [], [], i, _, hi => by simp at hi
  | [], _ :: _, _, r, _ => r.elim
  | _ :: _, [], _, r, _ => r.elim
  | v :: vs, L :: Ls, 0, ⟨⟨a, its, e1, e2, e3, e4⟩, r⟩, _ => ⟨a, its, e1, e2, e3⟩
  | v :: vs, L :: Ls, i + 1, ⟨_, r⟩, hi => by
    obtain ⟨a, its, e1, e2, e3⟩ := RowsAt.get (i := i) r (by simpa using hi)
    exact ⟨a, its, by simpa using e1, e2, by simpa using e3⟩
end
def Ris (xs : Array Nat) : Prop := xs.toList.Pairwise (· < ·)
structure Low (xs : Array Nat) (j r : Nat) : Prop where
  le : r ≤ xs.size
  lo : ∀ i, i < r → xs.getD i 0 < j
  hi : ∀ i, r ≤ i → i < xs.size → j ≤ xs.getD i 0
theorem getD_at {xs : Array Nat} {i d : Nat} (h : i < xs.size) : xs.getD i d = xs[i] := by simp [Array.getD, h]
theorem Ris.lt {xs : Array Nat} (h : Ris xs) {i k : Nat} (a : i < k) (b : k < xs.size) : xs.getD i 0 < xs.getD k 0 := by
  rw [getD_at (by omega), getD_at b]
  have := List.pairwise_iff_getElem.mp h i k (by rw [Array.length_toList]; omega) (by rw [Array.length_toList]; exact b) a
  simpa using this
theorem Low.uniq {xs : Array Nat} {j r r' : Nat} (a : Low xs j r) (b : Low xs j r') : r = r' := by
  rcases Nat.lt_trichotomy r r' with h | h | h
  · have x := a.hi r (Nat.le_refl _) (by have := b.le; omega)
    have y := b.lo r h
    omega
  · exact h
  · have x := b.hi r' (Nat.le_refl _) (by have := a.le; omega)
    have y := a.lo r' h
    omega
def adv (m : Nat) (p : SetTable.Probe) : SetTable.Probe :=
  if p.more > 0 then { p with more := p.more - 1, j := p.j + 1 } else
  { p with j := (SetTable.leap m p.i p.perturb).1, more := SetTable.runEnd m (SetTable.leap m p.i p.perturb).1 - (SetTable.leap m p.i p.perturb).1, i := (SetTable.leap m p.i p.perturb).1, perturb := (SetTable.leap m p.i p.perturb).2 }
def st0 (m : Nat) (h : Int) : SetTable.Probe := { j := SetTable.bits h % (m + 1), more := SetTable.runEnd m (SetTable.bits h % (m + 1)) - SetTable.bits h % (m + 1), i := SetTable.bits h % (m + 1), perturb := SetTable.bits h, dummy := none }
def pth (m : Nat) (h : Int) : Nat → SetTable.Probe
  | 0 => st0 m h
  | n + 1 => adv m (pth m h n)
theorem pth_run {m : Nat} {h : Int} {n : Nat} {p : SetTable.Probe} (e : pth m h n = p) : ∀ c, c ≤ p.more → pth m h (n + c) = { p with j := p.j + c, more := p.more - c }
  | 0, _ => e
  | c + 1, hc => by
    show adv m (pth m h (n + c)) = _
    rw [pth_run e c (by omega)]
    unfold adv
    rw [if_pos (show p.more - c > 0 by omega)]
    congr 1 <;> omega
def lp (m : Nat) (h : Int) : Nat → Nat × Nat
  | 0 => (SetTable.bits h % (m + 1), SetTable.bits h)
  | L + 1 => SetTable.leap m (lp m h L).1 (lp m h L).2
theorem run_le (m i : Nat) : SetTable.runEnd m i - i ≤ 9 := by unfold SetTable.runEnd; split <;> omega
theorem pth_lp (m : Nat) (h : Int) : ∀ L, ∃ n, n ≤ 10 * L ∧ pth m h n = { j := (lp m h L).1, more := SetTable.runEnd m (lp m h L).1 - (lp m h L).1, i := (lp m h L).1, perturb := (lp m h L).2, dummy := none }
  | 0 => ⟨0, Nat.le_refl _, rfl⟩
  | L + 1 => by
    obtain ⟨n, hn, e⟩ := pth_lp m h L
    have r := run_le m (lp m h L).1
    refine ⟨n + (SetTable.runEnd m (lp m h L).1 - (lp m h L).1) + 1, by omega, ?_⟩
    show adv m (pth m h (n + _)) = _
    rw [pth_run e _ (Nat.le_refl _)]
    unfold adv
    rw [if_neg (by simp)]
    rfl
theorem lp_pert (m : Nat) (h : Int) : ∀ L, (lp m h L).2 = SetTable.bits h / 32 ^ L
  | 0 => by show SetTable.bits h = _; simp
  | L + 1 => by
    show (lp m h L).2 / 32 = _
    rw [lp_pert m h L, Nat.div_div_eq_div_mul, Nat.pow_succ]
theorem bits_lt (h : Int) : SetTable.bits h < 2 ^ 64 := by unfold SetTable.bits; omega
theorem lp_zero (m : Nat) (h : Int) (L : Nat) (hL : 13 ≤ L) : (lp m h L).2 = 0 := by
  rw [lp_pert]
  refine Nat.div_eq_of_lt (Nat.lt_of_lt_of_le (bits_lt h) ?_)
  exact Nat.le_trans (by decide) (Nat.pow_le_pow_right (by decide) hL)
def cyc (m : Nat) : Nat → Nat → Nat
  | 0, x => x
  | d + 1, x => (cyc m d x * 5 + 1) % (m + 1)
theorem lp_cyc (m : Nat) (h : Int) : ∀ d, (lp m h (13 + d)).1 = cyc m d (lp m h 13).1
  | 0 => rfl
  | d + 1 => by
    show ((lp m h (13 + d)).1 * 5 + 1 + (lp m h (13 + d)).2 / 32) % (m + 1) = _
    rw [lp_zero m h _ (by omega), lp_cyc m h d]
    rfl
theorem cyc7 : ∀ x, x < 8 → ∀ e, e < 8 → ∃ d, d < 8 ∧ cyc 7 d x = e := by decide +kernel
theorem cyc31 : ∀ x, x < 32 → ∀ e, e < 32 → ∃ d, d < 32 ∧ cyc 31 d x = e := by decide +kernel
theorem lp_lt (m : Nat) (h : Int) : ∀ L, (lp m h L).1 < m + 1
  | 0 => Nat.mod_lt _ (Nat.succ_pos _)
  | L + 1 => Nat.mod_lt _ (Nat.succ_pos _)
theorem meets {m : Nat} (hm : m = 7 ∨ m = 31) (h : Int) {e : Nat} (he : e ≤ m) : ∃ n, n < 10 * (m + 14) ∧ (pth m h n).j = e := by
  have l := lp_lt m h 13
  obtain ⟨d, hd, hc⟩ : ∃ d, d < m + 1 ∧ cyc m d (lp m h 13).1 = e := by
    rcases hm with rfl | rfl
    · exact cyc7 _ l _ (by omega)
    · exact cyc31 _ l _ (by omega)
  obtain ⟨n, hn, q⟩ := pth_lp m h (13 + d)
  exact ⟨n, by omega, by rw [q]; show (lp m h (13 + d)).1 = e; rw [lp_cyc, hc]⟩
structure Tab (t : SetTable) (es : Array (Int × Value)) : Prop where
  mask : t.mask = 7 ∨ t.mask = 31
  dum : t.dummies = #[]
  ris : Ris t.place
  size : t.place.size = es.size
  room : es.size * 5 < t.mask * 3
  top : ∀ j ∈ t.place.toList, j ≤ t.mask
  way : ∀ (i : Nat) (hi : i < es.size), ∃ N, (pth t.mask es[i].1 N).j = t.place.getD i 0 ∧ ∀ m, m < N → (pth t.mask es[i].1 m).j ∈ t.place.toList
theorem Tab.fits {t : SetTable} {es : Array (Int × Value)} (T : Tab t es) : t.fits es.size = true := by
  unfold SetTable.fits SetTable.fill
  rw [T.dum, T.size]
  have := T.room
  simp
  omega
theorem range_le : ∀ (n : Nat) (l : List Nat), (∀ e, e < n → e ∈ l) → n ≤ l.length
  | 0, l, _ => Nat.zero_le _
  | n + 1, l, h => by
    have hn := h n (Nat.lt_succ_self _)
    have := range_le n (l.erase n) fun e he => (List.mem_erase_of_ne (by omega)).mpr (h e (by omega))
    rw [List.length_erase_of_mem hn] at this
    have := List.length_pos_of_mem hn
    omega
theorem Tab.free {t : SetTable} {es : Array (Int × Value)} (T : Tab t es) : ∃ e, e ≤ t.mask ∧ e ∉ t.place.toList := by
  refine Classical.byContradiction fun h => ?_
  have all : ∀ e, e ≤ t.mask → e ∈ t.place.toList := fun e he => Classical.byContradiction fun q => h ⟨e, he, q⟩
  have := range_le (t.mask + 1) t.place.toList fun e he => all e (by omega)
  rw [Array.length_toList, T.size] at this
  have := T.room
  omega
section
variable {prog : Program} {w : World} {A : Around} {E : Value → Shared → Prop} {s : Shared}
structure Asks (prog : Program) (w : World) (A : Around) (E : Value → Shared → Prop) (s : Shared) (es : Array (Int × Value)) (x : Value) (hash : Int) {K : Type} [DecidableEq K] (key : Nat → K) (k : K) : Prop where
  hsh : ∀ (i : Nat) (hi : i < es.size), key i = k → es[i].1 = hash
  eq : ∀ (i : Nat) (hi : i < es.size) (Q : Bool → Shared → Prop), Q (decide (key i = k)) s → wpAny (model prog w) A (eqBool es[i].2 x) Q E s
  ref : ∀ (i : Nat) (hi : i < es.size), ∃ a, es[i].2 = .ref a
  seen : ∀ (l : List Value), (∀ y ∈ l, ∃ (i : Nat) (hi : i < es.size), y = es[i].2) → ∀ Q : Bool → Shared → Prop, Q false s → wpAny (model prog w) A (searchCouldBeSeen x l) Q E s
end
abbrev OwnA := Array (Option Nat)
structure LaidT (m : Nat) (hs : List Int) (ow : OwnA) : Prop where
  size : ow.size = m + 1
  perm : (ow.toList.filterMap id).Perm (List.range hs.length)
  way : ∀ j i, ow[j]? = some (some i) → ∃ h, hs[i]? = some h ∧ ∃ N, (pth m h N).j = j ∧ ∀ q, q < N → (ow.getD (pth m h q).j (some 0)).isNone = false
section
variable {prog : Program} {w : World} {A : Around} {E : Value → Shared → Prop} {s : Shared}
theorem items_int {ks : List Int} {vs : List Value} (h : ItemsAre (intKind prog w) ks vs) : ∀ v ∈ vs, ∃ n t, v = .int n t := by
  induction h with
  | nil => exact fun v hv => by simp at hv
  | @cons k v' ks vs h1 _ ih =>
    intro v hv
    skip; rcases List.mem_cons.mp hv with rfl | hv
    · obtain ⟨t, e⟩ := Value.isInt_shape h1
      exact ⟨_, t, e⟩
    · exact ih v hv
def RowE (prog : Program) (w : World) (Z : Addr → List Int → Prop) (h : Heap) (e : Int × Value) (L : List Int) : Prop := ∃ a, e.2 = .ref a ∧ IsTupleKey (intKind prog w) h L a ∧ e.1 = tupleKeyHash (intKind prog w) L ∧ Z a L
inductive RowsE (prog : Program) (w : World) (Z : Addr → List Int → Prop) (h : Heap) : List (Int × Value) → List (List Int) → Prop
  | nil : RowsE prog w Z h [] []
  | cons {e : Int × Value} {L : List Int} {es : List (Int × Value)} {Ls : List (List Int)} : RowE prog w Z h e L → RowsE prog w Z h es Ls → RowsE prog w Z h (e :: es) (L :: Ls)
theorem RowsE.length {Z : Addr → List Int → Prop} {h : Heap} {es : List (Int × Value)} {Ls : List (List Int)} (r : RowsE prog w Z h es Ls) : es.length = Ls.length := by
  induction r with
  | nil => rfl
  | cons _ _ ih => simp [ih]
theorem RowsE.get {Z : Addr → List Int → Prop} {h : Heap} {es : List (Int × Value)} {Ls : List (List Int)} (r : RowsE prog w Z h es Ls) : ∀ (i : Nat) (hi : i < es.length), RowE prog w Z h es[i] (Ls.getD i []) := by
  induction r with
  | nil => exact fun i hi => by simp at hi
  | cons e _ ih =>
    intro i hi
    cases i with
    | zero => simpa using e
    | succ i => simpa using ih i (by simpa using hi)
theorem RowsE.perm {Z : Addr → List Int → Prop} {h : Heap} {us es : List (Int × Value)} (p : us.Perm es) : ∀ {Ls : List (List Int)}, RowsE prog w Z h es Ls → ∃ Ms, RowsE prog w Z h us Ms ∧ Ms.Perm Ls := by
  induction p with
  | nil => intro Ls r; exact ⟨Ls, r, List.Perm.refl _⟩
  | cons x _ ih =>
    intro Ls r
    cases r with
    | cons e r =>
      obtain ⟨m, a, b⟩ := ih r
      exact ⟨_, .cons e a, b.cons _⟩
  | swap x y l =>
    intro Ls r
    cases r with
    | cons e r =>
      cases r with
      | cons e2 r2 => exact ⟨_, .cons e2 (.cons e r2), List.Perm.swap _ _ _⟩
  | trans _ _ i1 i2 =>
    intro Ls r
    obtain ⟨m, a, b⟩ := i2 r
    obtain ⟨m2, a2, b2⟩ := i1 a
    exact ⟨m2, a2, b2.trans b⟩
theorem key_kept {h h' : Heap} {L : List Int} {a : Addr} (k : IsTupleKey (intKind prog w) h L a) (e : ∀ o, o.cls = .type "tuple" → h.get? a = some o → h'.get? a = some o) : IsTupleKey (intKind prog w) h' L a := by
  obtain ⟨o, items, n, ho, hc, r⟩ := k
  exact ⟨o, items, n, e o hc ho, hc, r⟩
theorem RowsE.kept {Z : Addr → List Int → Prop} {h h' : Heap} {es : List (Int × Value)} {Ls : List (List Int)} (r : RowsE prog w Z h es Ls) (e : ∀ b o, o.cls = .type "tuple" → h.get? b = some o → h'.get? b = some o) : RowsE prog w Z h' es Ls := by
  induction r with
  | nil => exact .nil
  | cons x _ ih =>
    obtain ⟨a, x1, x2, x3⟩ := x
    exact .cons ⟨a, x1, key_kept x2 (e a), x3⟩ ih
end
end L2
set_option Elab.async false
set_option linter.all false
set_option maxRecDepth 100000
set_option maxHeartbeats 4000000
namespace L2
open PySem PySem.Spec PyProof.Rows PySem.W
theorem items_ints' {prog : Program} {w : World} {ks : List Int} {vs : List Value} (h : ItemsAre (intKind prog w) ks vs) : IntsAre vs ks := by
  induction h with
  | nil => exact .nil
  | @cons k v ks vs h1 _ ih =>
    obtain ⟨t, e⟩ := Value.isInt_shape h1
    subst e
    exact .cons k t ih
inductive RowsV (prog : Program) (w : World) (Z : Addr → List Int → Prop) (h : Heap) : List Value → List (List Int) → Prop
  | nil : RowsV prog w Z h [] []
  | cons {a : Addr} {L : List Int} {vs : List Value} {Ls : List (List Int)} : IsTupleKey (intKind prog w) h L a → Z a L → RowsV prog w Z h vs Ls → RowsV prog w Z h (.ref a :: vs) (L :: Ls)
section
variable {prog : Program} {w : World} {A : Around} {E : Value → Shared → Prop} {s : Shared} {Z : Addr → List Int → Prop} {h : Heap}
theorem RowsV.length {vs : List Value} {Ls : List (List Int)} (r : RowsV prog w Z h vs Ls) : vs.length = Ls.length := by
  induction r with
  | nil => rfl
  | cons _ _ _ ih => simp [ih]
theorem RowsV.kept {h' : Heap} {vs : List Value} {Ls : List (List Int)} (r : RowsV prog w Z h vs Ls) (e : ∀ b o, o.cls = .type "tuple" → h.get? b = some o → h'.get? b = some o) : RowsV prog w Z h' vs Ls := by
  induction r with
  | nil => exact .nil
  | cons x y _ ih => exact .cons (key_kept x (e _)) y ih
theorem RowsV.at {vs : List Value} {Ls : List (List Int)} (r : RowsV prog w Z h vs Ls) (hne : ∀ L ∈ Ls, L ≠ []) : RowsAt h vs Ls := by
  induction r with
  | nil => trivial
  | @cons a L vs Ls x y _ ih =>
    obtain ⟨o, items, n, ho, hc, hd, hi⟩ := x
    exact ⟨⟨a, items, rfl, ⟨o, ho, hc, n, hd⟩, items_ints' hi, hne L List.mem_cons_self⟩, ih fun M hM => hne M (List.mem_cons_of_mem _ hM)⟩
end
inductive RefsH (H : Hp) : List V → List (List Int) → Prop
  | nil : RefsH H [] []
  | cons {a : Addr} {L : List Int} {vs : List V} {Ls : List (List Int)} : H a = some (.tup (L.map V.int)) → RefsH H vs Ls → RefsH H (.ref a :: vs) (L :: Ls)
theorem RefsH.length {H : Hp} {vs : List V} {Ls : List (List Int)} (r : RefsH H vs Ls) : vs.length = Ls.length := by
  induction r with
  | nil => rfl
  | cons _ _ ih => simp [ih]
theorem RefsH.mono {H H' : Hp} (e : Ext H H') {vs : List V} {Ls : List (List Int)} (r : RefsH H vs Ls) : RefsH H' vs Ls := by
  induction r with
  | nil => exact .nil
  | cons x _ ih => exact .cons (e _ _ x) ih
theorem RefsH.get {H : Hp} {vs : List V} {Ls : List (List Int)} (r : RefsH H vs Ls) : ∀ (i : Nat) (v : V), vs[i]? = some v → ∃ a, v = .ref a ∧ H a = some (.tup ((Ls.getD i []).map V.int)) := by
  induction r with
  | nil => intro i v h; simp at h
  | cons x _ ih =>
    intro i v h
    cases i with
    | zero => simp at h; subst h; exact ⟨_, rfl, by simpa using x⟩
    | succ i => simpa using ih i v (by simpa using h)
end L2
set_option Elab.async false
set_option linter.all false
set_option maxRecDepth 100000
set_option maxHeartbeats 4000000
namespace L2
open PySem PySem.Spec PyProof.Rows PySem.W
def pairLt (p q : List Int × Int) : Prop := p.1 < q.1 ∨ (p.1 = q.1 ∧ p.2 < q.2)
instance (p q : List Int × Int) : Decidable (pairLt p q) := by unfold pairLt; infer_instance
inductive PairsAt (prog : Program) (w : World) (h : Heap) : List Value → List (List Int × Int) → Prop
  | nil : PairsAt prog w h [] []
  | cons {c a : Addr} {L : List Int} {x : Int} {t : Tok} {vs : List Value} {Ks : List (List Int × Int)} : IsTup h c #[.ref a, .int x t] → IsTupleKey (intKind prog w) h L a → PairsAt prog w h vs Ks → PairsAt prog w h (.ref c :: vs) ((L, x) :: Ks)
section
variable {prog : Program} {w : World} {A : Around} {E : Value → Shared → Prop} {s : Shared}
theorem PairsAt.length {h : Heap} {vs : List Value} {Ks : List (List Int × Int)} (r : PairsAt prog w h vs Ks) : vs.length = Ks.length := by
  induction r with
  | nil => rfl
  | cons _ _ _ ih => simp [ih]
theorem PairsAt.kept {h h' : Heap} (e : ∀ b o, o.cls = .type "tuple" → h.get? b = some o → h'.get? b = some o) {vs : List Value} {Ks : List (List Int × Int)} (r : PairsAt prog w h vs Ks) : PairsAt prog w h' vs Ks := by
  induction r with
  | nil => exact .nil
  | cons x y _ ih =>
    obtain ⟨o, ho, hc, hr⟩ := x
    exact .cons ⟨o, e _ _ hc ho, hc, hr⟩ (key_kept y (e _)) ih
theorem PairsAt.get {h : Heap} {vs : List Value} {Ks : List (List Int × Int)} (r : PairsAt prog w h vs Ks) : ∀ i, i < vs.length → ∃ c a t, vs.getD i .none = .ref c ∧ IsTup h c #[.ref a, .int (Ks.getD i ([], 0)).2 t] ∧ IsTupleKey (intKind prog w) h (Ks.getD i ([], 0)).1 a := by
  induction r with
  | nil => exact fun i hi => by simp at hi
  | @cons c a L x t vs Ks x y _ ih =>
    intro i hi
    cases i with
    | zero => exact ⟨c, a, t, rfl, by simpa using x, by simpa using y⟩
    | succ i => simpa using ih i (by simpa using hi)
end
end L2
set_option Elab.async false
set_option linter.all false
set_option maxRecDepth 100000
set_option maxHeartbeats 4000000
namespace L2
open PySem PySem.Spec PyProof.Rows PySem.W
inductive PairsH (H : Hp) : List V → List (List Int × Int) → Prop
  | nil : PairsH H [] []
  | cons {c a : Addr} {L : List Int} {x : Int} {vs : List V} {Ks : List (List Int × Int)} : H c = some (.tup [.ref a, .int x]) → H a = some (.tup (L.map V.int)) → PairsH H vs Ks → PairsH H (.ref c :: vs) ((L, x) :: Ks)
theorem PairsH.length {H : Hp} {vs : List V} {Ks : List (List Int × Int)} (r : PairsH H vs Ks) : vs.length = Ks.length := by
  induction r with
  | nil => rfl
  | cons _ _ _ ih => simp [ih]
theorem PairsH.mono {H H' : Hp} (e : Ext H H') {vs : List V} {Ks : List (List Int × Int)} (r : PairsH H vs Ks) : PairsH H' vs Ks := by
  induction r with
  | nil => exact .nil
  | cons x y _ ih => exact .cons (e _ _ x) (e _ _ y) ih
section
variable {X : Cx}
open Classical in
end
def noTb : HO → Bool
  | .tbl _ => false
  | _ => true
def ExtT (H H' : Hp) : Prop := ∀ b o, H b = some o → noTb o = true → H' b = some o
theorem ExtT.tr {H H1 H2 : Hp} (a : ExtT H H1) (b : ExtT H1 H2) : ExtT H H2 := fun x o h n => b x o (a x o h n) n
theorem Ext.toT {H H' : Hp} (e : Ext H H') : ExtT H H' := fun b o h _ => e b o h
def CodeH (H : Hp) (c : Addr) (qual : Str) : Prop := ∃ (oc : Obj) (vs : Array Value) (t : Tok), H c = some (.frz oc (.own c)) ∧ oc.data = .fields vs ∧ vs[1]? = some (.str qual t)
theorem CodeH.mono {H H' : Hp} {c : Addr} {qual : Str} (e : ExtT H H') (h : CodeH H c qual) : CodeH H' c qual := by
  obtain ⟨oc, vs, t, h1, h2⟩ := h
  exact ⟨oc, vs, t, e _ _ h1 rfl, h2⟩
theorem CodeH.record {P : Program} {w : World} {H : Hp} {h : Heap} {c : Addr} {qual : Str} (ok : HOk P w H h) (k : CodeH H c qual) : h.CodeRec (.ref c) qual := by
  obtain ⟨oc, vs, t, h1, h2, h3⟩ := k
  obtain ⟨e, _⟩ := (show ObjOk P w H h c (.frz oc (.own c)) from ok c _ h1)
  exact ⟨c, oc, vs, t, rfl, e, h2, h3⟩
def TabR (H : Hp) (P : Addr) (pos : Pos) (qual : Str) : Prop := H P = some (.tbl #[]) ∨ ∃ c, H P = some (.tbl #[rawInt pos.line, rawInt pos.col, .ref c]) ∧ CodeH H c qual
theorem TabR.ext {H H' : Hp} {P : Addr} {pos : Pos} {qual : Str} (e : Ext H H') (h : TabR H P pos qual) : TabR H' P pos qual := by
  rcases h with h | ⟨c, h, k⟩
  · exact .inl (e _ _ h)
  · exact .inr ⟨c, e _ _ h, k.mono (Ext.toT e)⟩
theorem TabR.but {H H' : Hp} {P r : Addr} {pos : Pos} {qual : Str} {C dx : Addr} {fs : List (Str × V)} (hr : H r = some (.ins C dx fs)) (e : But r H H') (h : TabR H P pos qual) : TabR H' P pos qual := by
  rcases h with h | ⟨c, h, oc, vs, t, k, k2⟩
  · exact .inl (e _ _ (fun z => by rw [z, hr] at h; cases h) h)
  · exact .inr ⟨c, e _ _ (fun z => by rw [z, hr] at h; cases h) h, oc, vs, t, e _ _ (fun z => by rw [z, hr] at k; cases k) k, k2⟩
section
variable {X : Cx} {pins : List (Addr × Obj)} {σ : St} {H : Hp} {s : Shared}
theorem inv_grown {P c' : Addr} {ps more : Array Value} {oc : Obj} {h' : Heap} {t' : Nat} (I : Inv X pins σ H s) (hP : H P = some (.tbl ps)) (hx : Heap.ExtBut P s.heap h') (hge : s.heap.objs.size ≤ c') (hoc : h'.get? c' = some oc)
    (htb : h'.get? P = some { cls := .none, data := .fields (ps ++ more) }) :
    Inv X pins σ (upd (upd H P (.tbl (ps ++ more))) c' (.frz oc (.own c'))) { s with heap := h', toks := t' } := by
  have nc : H c' = none := I.hok.fresh hge
  have ncP : P ≠ c' := ne_of_none hP nc
  have keep : ∀ b o, H b = some o → noTb o = true → upd (upd H P (.tbl (ps ++ more))) c' (.frz oc (.own c')) b = some o := fun b o e n => by
    rw [upd_ne (ne_of_none e nc), upd_ne (fun z => by rw [z, hP] at e; cases e; cases n)]
    exact e
  refine I.un (h' := h') (t' := t') ⟨fun b o e n _ _ => hx b o (fun z => by rw [z, hP] at n; cases n) e, fun b o e n _ _ => ⟨o.slots, hx b o (fun z => by rw [z, hP] at n; cases n) e⟩, fun b o e n _ => ?_, fun b o e _ => ?_,
    fun b xs e => keep b _ e rfl, fun b ob u e => keep b _ e rfl, fun b qs e => ?_⟩ fun b u e => ?_
  · rw [upd_ne (Nat.ne_of_lt (Nat.lt_of_lt_of_le (Heap.lt_size e) hge)), upd_ne (fun z => by rw [z, hP] at n; cases n)]
    exact n
  · by_cases hb : b = P
    · exact ⟨_, by rw [hb]; exact htb⟩
    · exact ⟨o, hx b o hb e⟩
  · by_cases hb : b = P
    · subst hb
      rw [hP] at e
      cases e
      exact ⟨more, by rw [upd_ne ncP, upd_same]⟩
    · exact ⟨#[], by rw [upd_ne (ne_of_none e nc), upd_ne hb, e]; simp⟩
  · by_cases hc : b = c'
    · subst hc
      rw [upd_same] at e
      cases e
      exact ⟨hoc, oc, hoc⟩
    · rw [upd_ne hc] at e
      by_cases hb : b = P
      · subst hb
        rw [upd_same] at e
        cases e
        exact htb
      · rw [upd_ne hb] at e
        refine (I.hok b u e).stay (fun d v hd q => hx d v ?_ q) (fun d q => keep d _ q rfl) fun d xs q => keep d _ q rfl
        rcases hd with z | z
        · rw [z]; exact hb
        · intro y
          rw [y, hP] at z
          cases z
end
def cxLam (X : Cx) (pins : List (Addr × Obj)) (N : List Str) (qual : Str) (scope : Scope) (cl : List (Str × Addr)) (f c : Addr) (A : Around) (s : Shared) (H : Hp) : Cx where
  prog := X.prog
  w := X.w
  K := X.K
  mg := X.mg
  base := X.base
  A := A.deeper (PySem.W.envX qual scope s.heap.objs.size f (.ref c) cl)
  N := N
  s₀ := s
  H₀ := H
  env := PySem.W.envX qual scope s.heap.objs.size f (.ref c) cl
  outer := X.stack
  stack := PySem.W.envX qual scope s.heap.objs.size f (.ref c) cl :: X.stack
  ex := []
  fn := fun _ => false
  calm := true
  pn := X.pn ++ pins
  xe := NoX
def lSt (v : V) (js : List Nat) (σ : St) : St := some v :: js.map (slotAt σ)
structure LamOk (X : Cx) (scope : Scope) (cl : List (Str × Addr)) (x : Str) (fr : List Str) (js : List Nat) : Prop where
  kind : scope.kind = .function
  co : scope.isCoroutine = false
  gen : scope.isGenerator = false
  nc : ∀ y ∈ scope.names, y.2 ≠ .cell
  par : scope.names.lookup x = some .local
  clos : closOf X.env.cells scope.names [] = some cl
  frees : Frees X scope fr js
section
variable {X : Cx} {pins : List (Addr × Obj)} {σ : St} {H : Hp} {s : Shared}
theorem lam_start {A : Around} {x qual : Str} {fr : List Str} {js : List Nat} {scope : Scope} {cl : List (Str × Addr)} {f c : Addr} {h' : Heap} {tk : Nat} {v : V} {u : Value} (I : Inv X pins σ H s) (O : LamOk X scope cl x fr js) (hA : A.frames = some X.stack) (hh : A.handled = none) (r : RelV v u)
    (hn : h'.Ns s.heap.objs.size (fun y => [(x, u)].reverse.lookup y)) (hk : ∀ b o, s.heap.get? b = some o → h'.get? b = some o) :
    Inv (cxLam X pins (x :: fr) qual scope cl f c A s H) [] (lSt v js σ) H { s with heap := h', toks := tk } := by
  have sub := clos_sub _ _ _ O.clos (fun _ _ q => by simp at q)
  have noA : ∀ b : Addr, b ∉ (cxLam X pins (x :: fr) qual scope cl f c A s H).ex := fun b z => absurd (show b ∈ ([] : List Addr) from z) (by simp)
  refine ⟨⟨I.ok.mod, O.kind, rfl, rfl, Nat.le_refl _, fun y z d e1 e2 => I.ok.inj y z d (sub _ _ e1) (sub _ _ e2), fun y hy => ?_, (fun y d q => Bool.noConfusion (show false = true from q)), fun _ => hh, Around.frames_deeper hA, .inr ⟨rfl, rfl⟩, fun b z => absurd z (noA b),
    I.bs, Nat.le_trans I.ok.bsz I.sz, fun b _ _ => noA b, fun b z => absurd z (noA b), I.stack, I.stkFree⟩, rfl, I.bare, Un.kept hk, ⟨_, hn, fun i y w e1 e2 e3 => ?_⟩, fun y d e => ?_, I.hok.fresh (Nat.le_refl _), fun y d e => I.freeC y d (sub y d e), fun p hp => ?_, I.hok.kept hk, ?_⟩
  · have hy' : scope.names.lookup y = some .cell ∨ scope.names.lookup y = some .free := hy
    rcases hy' with hy' | hy'
    · exact absurd rfl (O.nc _ (PySem.mem_of_lookup hy'))
    · exact clos_has _ _ _ O.clos y (.inr (PySem.mem_of_lookup hy'))
  · cases i with
    | zero =>
      have e1' : x = y := by
        have z : (x :: fr)[0]? = some y := e1
        simpa using z
      have e2' : v = w := by simpa [lSt] using e2
      subst e1' e2'
      exact ⟨u, r, .inl ⟨O.par, by simp⟩⟩
    | succ i =>
      have e1' : fr[i]? = some y := by
        have z : (x :: fr)[i + 1]? = some y := e1
        simpa using z
      obtain ⟨j, hj, nj, kj, lj⟩ := O.frees.get e1'
      have e2' : slotAt σ j = some w := by
        unfold lSt at e2
        rw [List.getElem?_cons_succ, List.getElem?_map, hj] at e2
        exact Option.some.inj e2
      have e4 : σ[j]? = some (some w) := by
        unfold slotAt at e2'
        split at e2'
        · rename_i o q; rw [q, e2']
        · cases e2'
      obtain ⟨m, hm, hl⟩ := I.loc
      obtain ⟨u', ru, lk⟩ := hl j y w nj e4 (kj.elim (fun q => .inr (.inl q)) fun q => .inr (.inr q))
      refine ⟨u', ru, .inr ⟨lj, ?_⟩⟩
      rcases lk with ⟨q, _⟩ | ⟨_, d, ed, id⟩
      · rcases kj with k | k <;> (rw [q] at k; cases k)
      · have lj' : scope.names.lookup y = some .free := by
          rcases lj with z | z
          · exact absurd rfl (O.nc _ (PySem.mem_of_lookup z))
          · exact z
        obtain ⟨d', ed'⟩ := clos_has _ _ _ O.clos y (.inr (PySem.mem_of_lookup lj'))
        have := sub _ _ ed'
        rw [ed] at this
        cases this
        exact ⟨d, ed', id.keeps hk⟩
  · obtain ⟨w, q⟩ := I.cell y d (sub y d e)
    exact ⟨w, q.keeps hk⟩
  · have hp' : p ∈ X.pn ++ pins := by
      rcases List.mem_append.mp hp with q | q
      · exact q
      · simp at q
    obtain ⟨q1, q2, q3, q4, q5⟩ := I.pin p hp'
    refine ⟨hk _ _ q1, q2, Nat.ne_of_lt (Heap.lt_size q1), fun z => ?_, q5⟩
    rcases List.mem_cons.mp (I.stkSub _ z) with y | y
    · exact q3 y
    · exact q4 y
  · show (lSt v js σ).length = (x :: fr).length
    unfold lSt
    rw [List.length_cons, List.length_cons, List.length_map, O.frees.len]
theorem lam_call {A : Around} {E : Value → Shared → Prop} {k : Nat} {name x qual : Str} {fr : List Str} {js : List Nat} {params : Arguments} {body : Expr} {scope : Scope} {cl : List (Str × Addr)} {f c : Addr} {pm ctv : Value} {t : TE} {v : V} {u : Value} {Q : VK} (I : Inv X pins σ H s) (O : LamOk X scope cl x fr js)
    (hA : A.frames = some X.stack) (hr : Room (k + 1) A) (hf : (f, PySem.W.kla_obj name qual params body scope cl pm c ctv) ∈ pins) (hc : CodeH H c qual) (r : RelV v u)
    (hbind : bindArgs (PySem.W.kla_fn name qual params body scope cl pm (.ref c) ctv) ⟨[u], []⟩ = pure [(x, u)])
    (hb : PE (cxLam X pins (x :: fr) qual scope cl f c A s H) body t) (hq : t (lSt v js σ) H Q) : wpAny (model X.prog X.w) A (call (.ref f) [u]) (EP X pins σ Q) E s := by
  obtain ⟨ho, _⟩ := I.pin _ (List.mem_append_right _ hf)
  refine wpAny_call (PySem.W.kla_callFunE hr.depth ho rfl O.co O.gen rfl (hc.record I.hok) ?_)
  rw [hbind]
  refine wpAny_pure (wpAny_newFunctionEnv O.nc (fun y hy => by rw [List.mem_singleton.mp hy]; exact O.par) (fun h₁ hns hsb => ⟨I.nolimit.fresh _ hsb, ?_⟩) O.kind)
  skip; have hk₁ : ∀ b o, s.heap.get? b = some o → h₁.get? b = some o := fun b o e => hsb.extBut b o (Nat.ne_of_lt (Heap.lt_size e)) (Heap.get?_push_of_some _ e)
  have J := lam_start (A := A) (qual := qual) (f := f) (c := c) (tk := s.toks + [(x, u)].length) I O hA hr.hd r hns hk₁
  show codeAny _ _ (.expr body (PySem.W.envX qual scope s.heap.objs.size f (.ref c) cl)) _ _
  refine PySem.W.kla_codeExpr (wpAny_mono (hb [] _ _ H Q J hq) (fun u' s' ⟨v', H', J', r', q'⟩ => ?_) fun _ _ z => False.elim z)
  have I' : Inv X pins σ H' s' := I.call' (ch := []) J'.os J'.base J'.hok J'.bare fun b z => absurd z (by simp)
  exact ⟨v', H', I', r', q'⟩
end
def bestOf (lt : Nat → Nat → Bool) : Nat → Nat
  | 0 => 0
  | j + 1 => if lt (j + 1) (bestOf lt j) = true then j + 1 else bestOf lt j
theorem bestOf_le (lt : Nat → Nat → Bool) : ∀ j, bestOf lt j ≤ j
  | 0 => Nat.le_refl _
  | j + 1 => by
    unfold bestOf
    split
    · exact Nat.le_refl _
    · exact Nat.le_succ_of_le (bestOf_le lt j)
section
variable {prog : Program} {w : World} {A : Around} {E : Value → Shared → Prop} {s : Shared}
theorem pyNextA_item {b : Bool} {it l : Addr} {k : Nat} {xs : Array Value} {x : Value} {Q : Option Value → Shared → Prop} (i0 : ItA b s.heap it l k) (l0 : SqA b s.heap l xs) (hx : xs[k]? = some x)
    (q : ∀ h', ItA b h' it l (k + 1) → Heap.SameBut it s.heap h' → Q (some x) { s with heap := h' }) : wpAny (model prog w) A (pyNext (.ref it)) Q E s := by
  cases b
  · exact wpAny_pyNext_list_item i0 l0 hx q
  · exact wpAny_pyNext_tuple_item i0 l0 hx q
theorem pyNextA_end {b : Bool} {it l : Addr} {k : Nat} {xs : Array Value} {Q : Option Value → Shared → Prop} (hh : A.handled = none) (i0 : ItA b s.heap it l k) (l0 : SqA b s.heap l xs) (hx : xs[k]? = none)
    (q : ∀ h', Heap.ExtBut it s.heap h' → Q none { s with heap := h' }) : wpAny (model prog w) A (pyNext (.ref it)) Q E s := by
  cases b
  · exact wpAny_pyNext_list_end hh i0 l0 hx q
  · exact wpAny_pyNext_tuple_end hh i0 l0 hx q
end
section
variable {X : Cx} {pins : List (Addr × Obj)} {σ : St} {H : Hp} {s : Shared}
theorem Inv.drop1 {pins' : List (Addr × Obj)} {a : Addr} {o : Obj} {h' : Heap} {t' : Nat} (I : Inv X pins σ H s) (ha : (a, o) ∈ pins) (hs : X.s₀.heap.objs.size ≤ a) (hk : ∀ b u, b ≠ a → s.heap.get? b = some u → h'.get? b = some u) (hX : ∀ p ∈ X.pn, p.1 ≠ a)
    (hp : ∀ p ∈ pins', p ∈ pins ∧ p.1 ≠ a) : Inv X pins' σ H { s with heap := h', toks := t' } := by
  obtain ⟨a1, a2, a3, a4, a5⟩ := I.pin _ (List.mem_append_right _ ha)
  have J0 : Inv X [] σ H s := I.pins_of fun p z => by cases z
  have cl : ∀ x c, X.env.cells.lookup x = some c → c ≠ a := fun x c e z => by
    obtain ⟨v, ob, h1, h2⟩ := I.cell x c e
    rw [z] at h1
    have h3 : s.heap.get? a = some o := a1
    rw [h3] at h1
    cases h1
    exact a5 v h2
  have J1 : Inv X [] σ H { s with heap := h', toks := t' } := J0.turned hk a2 a3 (.inr hs) cl fun p z => by
    rcases List.mem_append.mp z with z | z
    · exact hX p z
    · cases z
  refine J1.pins_of fun p z => ?_
  obtain ⟨z1, z2⟩ := hp p z
  obtain ⟨p1, p2, p3, p4, p5⟩ := I.pin p (List.mem_append_right _ z1)
  exact ⟨hk _ _ z2 p1, p2, p3, p4, p5⟩
theorem Inv.repin {pins' : List (Addr × Obj)} {a : Addr} {o o' : Obj} {h' : Heap} {t' : Nat} (I : Inv X pins σ H s) (ha : (a, o) ∈ pins) (hs : X.s₀.heap.objs.size ≤ a) (hk : ∀ b u, b ≠ a → s.heap.get? b = some u → h'.get? b = some u) (hn : h'.get? a = some o') (hd : ∀ v, o'.data ≠ .cell v) (hX : ∀ p ∈ X.pn, p.1 ≠ a)
    (hp : ∀ p ∈ pins', (p ∈ pins ∧ p.1 ≠ a) ∨ p = (a, o')) : Inv X pins' σ H { s with heap := h', toks := t' } := by
  obtain ⟨a1, a2, a3, a4, a5⟩ := I.pin _ (List.mem_append_right _ ha)
  have J1 : Inv X [] σ H { s with heap := h', toks := t' } := I.drop1 ha hs hk hX fun p z => by cases z
  refine J1.pins_of fun p z => ?_
  rcases hp p z with ⟨z1, z2⟩ | rfl
  · obtain ⟨p1, p2, p3, p4, p5⟩ := I.pin p (List.mem_append_right _ z1)
    exact ⟨hk _ _ z2 p1, p2, p3, p4, p5⟩
  · exact ⟨hn, a2, a3, a4, hd⟩
theorem Inv.pin2 {h' : Heap} {t' : Nat} {a b : Addr} {o p : Obj} (I : Inv X pins σ H s) (hk : ∀ d u, s.heap.get? d = some u → h'.get? d = some u) (ha : h'.get? a = some o) (hb : h'.get? b = some p) (la : s.heap.objs.size ≤ a) (lb : s.heap.objs.size ≤ b) (da : ∀ v, o.data ≠ .cell v) (db : ∀ v, p.data ≠ .cell v) :
    Inv X (pins ++ [(a, o), (b, p)]) σ H { s with heap := h', toks := t' } := by
  have J : Inv X pins σ H { s with heap := h', toks := t' } := I.kept hk
  refine J.pins_of fun q hq => ?_
  rcases List.mem_append.mp hq with z | z
  · exact J.pin q (List.mem_append_right _ z)
  · rcases List.mem_cons.mp z with rfl | z
    · exact ⟨ha, I.hok.fresh la, Nat.ne_of_gt (Nat.lt_of_lt_of_le I.lt la), I.nofs la, da⟩
    · rw [List.mem_singleton.mp z]
      exact ⟨hb, I.hok.fresh lb, Nat.ne_of_gt (Nat.lt_of_lt_of_le I.lt lb), I.nofs lb, db⟩
structure Keyed (X : Cx) (A : Around) (σ : St) (KR : Hp → V → Nat → Prop) (lt : Nat → Nat → Bool) : Prop where
  ext : ∀ {H H' : Hp} {v : V} {i : Nat}, Ext H H' → KR H v i → KR H' v i
  cmp : ∀ {pins : List (Addr × Obj)} {H : Hp} {s : Shared} {v1 v2 : V} {u1 u2 : Value} {i j : Nat} {Q : Value → Shared → Prop} {E : Value → Shared → Prop}, Inv X pins σ H s → KR H v1 i → RelV v1 u1 → KR H v2 j → RelV v2 u2 → Q (.bool (lt i j)) s →
    wpAny (model X.prog X.w) A (richCompare .Lt u1 u2) Q E s
structure Turns (X : Cx) (A : Around) (pins : List (Addr × Obj)) (σ : St) (KR : Hp → V → Nat → Prop) (G : Hp → Prop) (q l : Addr) (xs : List V) (tp : Bool) : Prop where
  ext : ∀ {H H' : Hp}, Ext H H' → G H → G H'
  src : ∀ {H : Hp}, G H → SqE X.K H l xs tp
  turn : ∀ {ps : List (Addr × Obj)} {H : Hp} {s : Shared} {i : Nat} {x : V} {u : Value} {E : Value → Shared → Prop}, (∀ p ∈ pins, p ∈ ps) → Inv X ps σ H s → G H → xs[i]? = some x → RelV x u →
    wpAny (model X.prog X.w) A (call (.ref q) [u]) (EP X ps σ fun kv H' => KR H' kv i ∧ Ext H H') E s
variable {A : Around} {KR : Hp → V → Nat → Prop} {lt : Nat → Nat → Bool} {G : Hp → Prop} {l q It S : Addr} {xs : List V} {tp : Bool} {R : Result → Shared → Prop}
theorem mk_loop (hh : A.handled = none) (KY : Keyed X A.in1 σ KR lt) (T : Turns X A.in1 pins σ KR G q l xs tp) (sI : X.s₀.heap.objs.size ≤ It) (sS : X.s₀.heap.objs.size ≤ S) (hSI : S ≠ It) (pI : ∀ p ∈ X.pn ++ pins, p.1 ≠ It) (pS : ∀ p ∈ X.pn ++ pins, p.1 ≠ S)
    (hR : ∀ {H : Hp} {s : Shared} {x : V} {u : Value}, xs[bestOf lt (xs.length - 1)]? = some x → RelV x u → Inv X pins σ H s → G H → R (.ok (.ret u)) s) :
    ∀ (r j : Nat) {s : Shared} {H : Hp} {oI : Obj} {c : Nat} {vb kb : Value} {xb kv : V}, xs.length - (j + 1) = r → j + 1 ≤ xs.length → Inv X (pins ++ [(It, oI), (S, seqObj "list" #[vb, kb] c)]) σ H s → ItA tp s.heap It l (j + 1) → xs[bestOf lt j]? = some xb → RelV xb vb → RelV kv kb → KR H kv (bestOf lt j) → G H →
      codeAny (model X.prog X.w) A (.builtin "min.loop" ⟨[.ref It, .ref q, .ref S], []⟩) R s := by
  skip; have hname : (toString "min" ++ toString ".loop" : String) = "min.loop" := by decide
  intro r
  induction r with
  | zero =>
    intro j s H oI c vb kb xb kv hr hj I hit hxb rxb rkv hkr hG
    have mI : (It, oI) ∈ pins ++ [(It, oI), (S, seqObj "list" #[vb, kb] c)] := List.mem_append_right _ (.head _)
    have gS := (I.pin (S, seqObj "list" #[vb, kb] c) (List.mem_append_right _ (List.mem_append_right _ (.tail _ (.head _))))).1
    obtain ⟨its, rv, sq, _⟩ := I.sqe (T.src hG)
    have hl := rv.length
    skip; refine codeAny_builtin PySem.F.entry_min_loop ?_
    skip; rw [Around.under_plainId PySem.F.plain_min_loop _]
    skip; show wpAny _ A.in1 (seqItems? (.ref S) >>= _) _ _ _
    skip; refine wpAny_bind (wpAny_seqItems gS rfl ?_)
    skip; show wpAny _ A.in1 (tryCatch (pyNext (.ref It)) _ >>= _) _ _ _
    refine wpAny_bind (wpAny_tryCatch (pyNextA_end hh hit sq (Array.getElem?_eq_none (by rw [List.size_toArray]; omega)) fun h' hx => ?_))
    have I1 : Inv X (pins ++ [(S, seqObj "list" #[vb, kb] c)]) σ H { s with heap := h' } := I.drop1 mI sI (fun b u n e => hx b u n e) (fun p hp => pI p (List.mem_append_left _ hp)) fun p hp => by
      skip; rcases List.mem_append.mp hp with z | z
      · exact ⟨List.mem_append_left _ z, pI p (List.mem_append_right _ z)⟩
      · rw [List.mem_singleton.mp z]; exact ⟨List.mem_append_right _ (.tail _ (.head _)), hSI⟩
    have gS1 : h'.get? S = some (seqObj "list" #[vb, kb] c) := hx S _ hSI gS
    skip; have s1 := Heap.SameBut.update h' S (Obj.mapSeq fun _ => (#[] : Array Value))
    skip; show wpAny _ A.in1 (updateSeq S (fun _ => #[]) >>= _) _ _ _
    skip; refine wpAny_bind ?_
    refine wpAny_updateSeq gS1 rfl (wpAny_bind (wpAny_letGo (wpAny_pure ?_)))
    refine hR (x := xb) (H := H) (by rw [show xs.length - 1 = j by omega]; exact hxb) rxb (I1.drop1 (List.mem_append_right _ (.head _)) sS (fun b u n e => (s1.2 b n).trans e) (fun p hp => pS p (List.mem_append_left _ hp)) fun p hp => ⟨List.mem_append_left _ hp, pS p (List.mem_append_right _ hp)⟩) hG
  | succ r ih =>
    intro j s H oI c vb kb xb kv hr hj I hit hxb rxb rkv hkr hG
    have mI : (It, oI) ∈ pins ++ [(It, oI), (S, seqObj "list" #[vb, kb] c)] := List.mem_append_right _ (.head _)
    have gS := (I.pin (S, seqObj "list" #[vb, kb] c) (List.mem_append_right _ (List.mem_append_right _ (.tail _ (.head _))))).1
    obtain ⟨its, rv, sq, _⟩ := I.sqe (T.src hG)
    have hl := rv.length
    have hx : xs[j + 1]? = some (xs[j + 1]'(by omega)) := List.getElem?_eq_getElem _
    obtain ⟨u, eu, ru⟩ := rv.get hx
    skip; refine codeAny_builtin PySem.F.entry_min_loop ?_
    skip; rw [Around.under_plainId PySem.F.plain_min_loop _]
    skip; show wpAny _ A.in1 (seqItems? (.ref S) >>= _) _ _ _
    skip; refine wpAny_bind (wpAny_seqItems gS rfl ?_)
    skip; show wpAny _ A.in1 (tryCatch (pyNext (.ref It)) _ >>= _) _ _ _
    refine wpAny_bind (wpAny_tryCatch (pyNextA_item hit sq (by simpa using eu) fun h' hit' sb => ?_))
    obtain ⟨oI', goI', dI'⟩ := hit'.ex
    have I1 : Inv X (pins ++ [(It, oI'), (S, seqObj "list" #[vb, kb] c)]) σ H { s with heap := h' } := I.repin mI sI (fun b u n e => (sb.2 b n).trans e) goI' dI' (fun p hp => pI p (List.mem_append_left _ hp)) fun p hp => by
      skip; rcases List.mem_append.mp hp with z | z
      · exact .inl ⟨List.mem_append_left _ z, pI p (List.mem_append_right _ z)⟩
      · rcases List.mem_cons.mp z with rfl | z
        · exact .inr rfl
        · rw [List.mem_singleton.mp z]; exact .inl ⟨List.mem_append_right _ (.tail _ (.head _)), hSI⟩
    show wpAny _ A.in1 (tryCatch (holding [u] (call (.ref q) [u])) _ >>= _) _ _ _
    refine wpAny_bind (wpAny_tryCatch (wpAny_holding (wpAny_mono (T.turn (fun p hp => List.mem_append_left _ hp) I1 hG hx ru) (fun ku s2 ⟨kv2, H2, I2, rk2, hk2, e2⟩ => ?_) fun _ _ hF => hF)))
    have gI2 := (I2.pin (It, oI') (List.mem_append_right _ (List.mem_append_right _ (.head _)))).1
    have gS2 := (I2.pin (S, seqObj "list" #[vb, kb] c) (List.mem_append_right _ (List.mem_append_right _ (.tail _ (.head _))))).1
    have hit2 : ItA tp s2.heap It l (j + 1 + 1) := hit'.at fun o e => by rw [goI'] at e; cases e; exact gI2
    show wpAny _ A.in1 (tryCatch (holding [u, ku] (richCompare .Lt ku kb >>= _)) _ >>= _) _ _ _
    refine wpAny_bind (wpAny_tryCatch (wpAny_holding (wpAny_bind (KY.cmp I2 hk2 rk2 (KY.ext e2 hkr) rkv ?_))))
    skip; refine wpAny_bind (wpAny_holding (wpAny_truthy_bool ?_))
    skip; refine wpAny_bind (wpAny_letGo (wpAny_pure ?_))
    by_cases hb' : lt (j + 1) (bestOf lt j) = true
    · have eb : bestOf lt (j + 1) = j + 1 := by unfold bestOf; rw [if_pos hb']
      have s1 := Heap.SameBut.update s2.heap S (Obj.mapSeq fun _ => #[u, ku])
      obtain ⟨c2, hc2⟩ : ∃ c2, (s2.heap.update S (Obj.mapSeq fun _ => #[u, ku])).get? S = some (seqObj "list" #[u, ku] c2) := ⟨_, get?_update_seq gS2 fun _ => #[u, ku]⟩
      simp only [hb', if_true]
      skip; refine wpAny_bind ?_
      refine wpAny_updateSeq gS2 rfl (wpAny_bind (wpAny_letGo ?_))
      rw [hname]
      have I3 : Inv X (pins ++ [(It, oI'), (S, seqObj "list" #[u, ku] c2)]) σ H2 { s2 with heap := s2.heap.update S (Obj.mapSeq fun _ => #[u, ku]) } := I2.repin (List.mem_append_right _ (.tail _ (.head _))) sS (fun b u n e => (s1.2 b n).trans e) hc2 (fun v z => by cases z) (fun p hp => pS p (List.mem_append_left _ hp)) fun p hp => by
        skip; rcases List.mem_append.mp hp with z | z
        · exact .inl ⟨List.mem_append_left _ z, pS p (List.mem_append_right _ z)⟩
        · rcases List.mem_cons.mp z with rfl | z
          · exact .inl ⟨List.mem_append_right _ (.head _), hSI.symm⟩
          · exact .inr (List.mem_singleton.mp z)
      refine wpAny_pure ⟨plainId_quiet PySem.F.plain_min_loop _, ih (j + 1) (by omega) (by omega) I3 (hit2.at fun o e => (s1.2 It hSI.symm).trans e) (by rw [eb]; exact hx) ru rk2 (by rw [eb]; exact hk2) (T.ext e2 hG)⟩
    · have eb : bestOf lt (j + 1) = bestOf lt j := by show (if _ then _ else _) = _; rw [if_neg hb']
      have hb2 : lt (j + 1) (bestOf lt j) = false := by simpa using hb'
      simp only [hb2, Bool.false_eq_true, if_false]
      skip; refine wpAny_bind (wpAny_letGo ?_)
      rw [hname]
      refine wpAny_pure ⟨plainId_quiet PySem.F.plain_min_loop _, ih (j + 1) (by omega) (by omega) I2 hit2 (by rw [eb]; exact hxb) rxb rkv (by rw [eb]; exact KY.ext e2 hkr) (T.ext e2 hG)⟩
theorem mk_min {E : Value → Shared → Prop} {Q : Value → Shared → Prop} (hh : A.handled = none) (I : Inv X pins σ H s) (hG : G H) (KY : Keyed X A.in1 σ KR lt) (T : Turns X A.in1 pins σ KR G q l xs tp) (hne : 0 < xs.length)
    (hQ : ∀ {H : Hp} {s : Shared} {x : V} {u : Value}, xs[bestOf lt (xs.length - 1)]? = some x → RelV x u → Inv X pins σ H s → G H → Q u s) :
    wpAny (model X.prog X.w) A (call (.builtin "min") [.ref l] [(Str.ofString "key", .ref q)]) Q E s := by
  skip; have hname : (toString "min" ++ toString ".loop" : String) = "min.loop" := by decide
  obtain ⟨its, rv, sq, _⟩ := I.sqe (T.src hG)
  have hl := rv.length
  skip; refine kmk_tree PySem.F.kind_min PySem.F.plain_min PySem.F.entry_min (kmk_min_key _ _) ?_
  skip; show wpAny _ A.in1 (Builtin.Builtins.bindParams "min" ["key", "default"] 0 ⟨[], [(Str.ofString "key", .ref q)]⟩ >>= _) _ _ s
  skip; refine wpAny_bind (wpAny_of_eq (show Builtin.Builtins.bindParams "min" ["key", "default"] 0 ⟨[], [(Str.ofString "key", .ref q)]⟩ = pure [some (.ref q), none] from rfl) ?_)
  refine wpAny_bind (wpAny_pure ?_)
  refine wpAny_bind (iterA sq ?_)
  skip; refine wpAny_bind (wpAny_newList ?_ (Nat.zero_le _))
  rw [hname]
  have hS : (s.heap.push (itO tp l)).objs.size = s.heap.objs.size + 1 := size_push' ..
  have gI : ((s.heap.push (itO tp l)).push (seqObj "list" #[] 0)).get? s.heap.objs.size = some (itO tp l) := Heap.get?_push_of_some _ (Heap.get?_push_size _ rfl)
  have gS : ((s.heap.push (itO tp l)).push (seqObj "list" #[] 0)).get? (s.heap.push (itO tp l)).objs.size = some (seqObj "list" #[] 0) := Heap.get?_push_size _ rfl
  have I1 : Inv X (pins ++ [(s.heap.objs.size, itO tp l), ((s.heap.push (itO tp l)).objs.size, seqObj "list" #[] 0)]) σ H { s with heap := (s.heap.push (itO tp l)).push (seqObj "list" #[] 0) } :=
    I.pin2 (fun d u e => Heap.get?_push_of_some _ (Heap.get?_push_of_some _ e)) gI gS (Nat.le_refl _) (by rw [hS]; omega) (fun v z => by cases z) fun v z => by cases z
  have hit1 : ItA tp ((s.heap.push (itO tp l)).push (seqObj "list" #[] 0)) s.heap.objs.size l 0 := itO_at gI
  have hSI : (s.heap.push (itO tp l)).objs.size ≠ s.heap.objs.size := by rw [hS]; omega
  have sI : X.s₀.heap.objs.size ≤ s.heap.objs.size := I.sz
  have sS : X.s₀.heap.objs.size ≤ (s.heap.push (itO tp l)).objs.size := by rw [hS]; omega
  have pI : ∀ p ∈ X.pn ++ pins, p.1 ≠ s.heap.objs.size := fun p hp => Nat.ne_of_lt (Heap.lt_size (I.pin p hp).1)
  have pS : ∀ p ∈ X.pn ++ pins, p.1 ≠ (s.heap.push (itO tp l)).objs.size := fun p hp => by rw [hS]; exact Nat.ne_of_lt (Nat.lt_succ_of_lt (Heap.lt_size (I.pin p hp).1))
  skip; refine wpAny_pure ⟨plainId_quiet PySem.F.plain_min_loop _, ?_⟩
  generalize s.heap.objs.size = It at *
  generalize (s.heap.push (itO tp l)).objs.size = S at *
  generalize (s.heap.push (itO tp l)).push (seqObj "list" #[] 0) = h2 at *
  have hx : xs[0]? = some (xs[0]'hne) := List.getElem?_eq_getElem _
  obtain ⟨its2, rv2, sq2, _⟩ := I1.sqe (T.src hG)
  obtain ⟨u, eu, ru⟩ := rv2.get hx
  skip; refine codeAny_builtin PySem.F.entry_min_loop ?_
  skip; rw [Around.under_plainId PySem.F.plain_min_loop _]
  skip; show wpAny _ A.in1 (seqItems? (.ref _) >>= _) _ _ _
  skip; refine wpAny_bind (wpAny_seqItems gS rfl ?_)
  skip; show wpAny _ A.in1 (tryCatch (pyNext (.ref It)) _ >>= _) _ _ _
  refine wpAny_bind (wpAny_tryCatch (pyNextA_item hit1 sq2 (by simpa using eu) fun h' hit' sb => ?_))
  obtain ⟨oI', goI', dI'⟩ := hit'.ex
  have I2 : Inv X (pins ++ [(It, oI'), (S, seqObj "list" #[] 0)]) σ H { s with heap := h' } := I1.repin (List.mem_append_right _ (.head _)) sI (fun b u n e => (sb.2 b n).trans e) goI' dI' (fun p hp => pI p (List.mem_append_left _ hp)) fun p hp => by
    skip; rcases List.mem_append.mp hp with z | z
    · exact .inl ⟨List.mem_append_left _ z, pI p (List.mem_append_right _ z)⟩
    · rcases List.mem_cons.mp z with rfl | z
      · exact .inr rfl
      · rw [List.mem_singleton.mp z]; exact .inl ⟨List.mem_append_right _ (.tail _ (.head _)), hSI⟩
  show wpAny _ A.in1 (tryCatch (holding [u] (call (.ref q) [u])) _ >>= _) _ _ _
  refine wpAny_bind (wpAny_tryCatch (wpAny_holding (wpAny_mono (T.turn (fun p hp => List.mem_append_left _ hp) I2 hG hx ru) (fun ku s2 ⟨kv2, H2, I3, rk2, hk2, e2⟩ => ?_) fun _ _ hF => hF)))
  have gI2 := (I3.pin (It, oI') (List.mem_append_right _ (List.mem_append_right _ (.head _)))).1
  have gS2 := (I3.pin (S, seqObj "list" #[] 0) (List.mem_append_right _ (List.mem_append_right _ (.tail _ (.head _))))).1
  have hit2 : ItA tp s2.heap It l 1 := hit'.at fun o e => by rw [goI'] at e; cases e; exact gI2
  have s1 := Heap.SameBut.update s2.heap S (Obj.mapSeq fun _ => #[u, ku])
  obtain ⟨c2, hc2⟩ : ∃ c2, (s2.heap.update S (Obj.mapSeq fun _ => #[u, ku])).get? S = some (seqObj "list" #[u, ku] c2) := ⟨_, get?_update_seq gS2 fun _ => #[u, ku]⟩
  show wpAny _ A.in1 (updateSeq S (fun _ => #[u, ku]) >>= _) _ _ _
  skip; refine wpAny_bind ?_
  refine wpAny_updateSeq gS2 rfl ?_
  rw [hname]
  have I4 : Inv X (pins ++ [(It, oI'), (S, seqObj "list" #[u, ku] c2)]) σ H2 { s2 with heap := s2.heap.update S (Obj.mapSeq fun _ => #[u, ku]) } := I3.repin (List.mem_append_right _ (.tail _ (.head _))) sS (fun b u n e => (s1.2 b n).trans e) hc2 (fun v z => by cases z) (fun p hp => pS p (List.mem_append_left _ hp)) fun p hp => by
    skip; rcases List.mem_append.mp hp with z | z
    · exact .inl ⟨List.mem_append_left _ z, pS p (List.mem_append_right _ z)⟩
    · rcases List.mem_cons.mp z with rfl | z
      · exact .inl ⟨List.mem_append_right _ (.head _), hSI.symm⟩
      · exact .inr (List.mem_singleton.mp z)
  refine wpAny_pure ⟨plainId_quiet PySem.F.plain_min_loop _, mk_loop hh KY T sI sS hSI pI pS (fun h1 h2 h3 h4 => hQ h1 h2 h3 h4) _ 0 rfl hne I4 (hit2.at fun o e => (s1.2 It hSI.symm).trans e) hx ru rk2 hk2 (T.ext e2 hG)⟩
end
section
variable {prog : Program} {w : World} {A : Around} {E : Value → Shared → Prop} {s : Shared}
theorem lt_ints {a b : Int} {t u : Tok} {Q : Value → Shared → Prop} (h : Q (.bool (decide (a < b))) s) : wpAny (model prog w) A (richCompare .Lt (.int a t) (.int b u)) Q E s :=
  richCompare_gives (op := .Lt) (typeIs_int s _ t) (typeIs_int s _ u) F.slot_int_lt F.entry_int_lt (F.args_int_lt_2 _ _) (gives_int_lt _ _ t u) (fun x => nomatch x) h
end
def KRi (kf : Nat → Int) : Hp → V → Nat → Prop := fun _ v i => v = .int (kf i)
def lti (kf : Nat → Int) (i j : Nat) : Bool := decide (kf i < kf j)
section
variable {X : Cx} {σ : St} {A : Around}
theorem keyed_ints (kf : Nat → Int) : Keyed X A σ (KRi kf) (lti kf) where
  ext := fun _ h => h
  cmp := fun {pins H s v1 v2 u1 u2 i j Q E} I h1 r1 h2 r2 q => by
    cases (show v1 = .int (kf i) from h1)
    cases (show v2 = .int (kf j) from h2)
    obtain ⟨t1, rfl⟩ := r1
    obtain ⟨t2, rfl⟩ := r2
    exact lt_ints q
end
abbrev LA (α : Type) := List (Addr × Obj) → Addr → Addr → Shared → Hp → α
def srcO (tp : Bool) (xs : List V) : HO := if tp then .tup xs else .lst xs
theorem sqe_src {K : PySem.W.Frag} {H : Hp} {l : Addr} {xs : List V} {tp : Bool} (h : H l = some (srcO tp xs)) : SqE K H l xs tp := by
  cases tp
  · exact SqL.of h
  · exact SqT.of h
theorem noTb_src (tp : Bool) (xs : List V) : noTb (srcO tp xs) = true := by cases tp <;> rfl
theorem law_callT {P : Program} {w : World} {K : PySem.W.Frag} {mg mb : Str → Option Value} {CX : CXT} {k : Nat} {fa a : Addr} {fd : FuncData} {x : Str} {sp : Sp} {s₁ : Shared} {vs : List Value} {ns : List Int} {cps : List (Addr × Addr)}
    (KX : K.In s₁.heap) (hns : s₁.heap.Ns mainGlobals mg) (hb : s₁.heap.Ns builtinsNs mb) (hbb : ∀ x : Str, x ≠ "__name__" → mb x = bootBuiltins x) (hlim : s₁.heap.NoLimit)
    (hbm : ∃ bm ob, mg "__builtins__" = some (.ref bm) ∧ bm ≠ builtinsNs ∧ s₁.heap.get? bm = some ob ∧ ob.cls = .type "module" ∧ ob.dict = some builtinsNs ∧ ob.data = .plain) (hg : s₁.gens = #[])
    (ha : s₁.heap.get? a = some { cls := .type "list", data := .seq vs.toArray }) (hi : IntsAre vs ns) (hl : ns.length ≤ sizeLine) (hr : Room k callerA)
    (hK : PySem.W.noTabs K = true) (hT : ∀ q ∈ cps, PySem.W.codeHdIn K q.1 q.2 = true ∧ s₁.heap.get? q.2 = some (PySem.W.tabObj #[]))
    (F : ∀ base : Heap, K.In base → base.Ns mainGlobals mg → FnOk P w K mg base CX k fa fd [x] sp) (hbind : ∀ (s : Shared) (u : Value), BindsTo s fd ⟨[u], []⟩ [(x, u)])
    (hsp : ∀ H : Hp, (∀ q ∈ cps, H q.2 = some (.tbl #[])) → SqL K H a (ns.map V.int) → sp [.ref a] H (fun v _ => v = .bl true) fun _ _ _ => False)
    (hCX : ∀ H e s', CX [] H s₁ (fun _ _ _ => False) e s' → False) :
    codeAny (model P w) callerA (.call (.ref fa) ⟨[.ref a], []⟩) (fun r s' => r = .ok (.ret (.bool true)) ∧ OldK s₁.heap s'.heap ∧ s'.os = s₁.os ∧ AllBare s'.gens) s₁ := by
  have rv := vals_ints hi
  have lenV := hi.length
  have tabN : ∀ q ∈ cps, q.2 ≠ a := fun q hq z => by
    have := (hT q hq).2
    rw [z, ha] at this
    cases this
  have tabK : ∀ q ∈ cps, K.lookup q.2 = none := fun q hq => by
    cases e : K.lookup q.2 with
    | none => rfl
    | some o =>
      have h1 := KX _ _ e
      rw [(hT q hq).2] at h1
      cases h1
      have h2 := List.all_eq_true.mp hK (q.2, _) (PySem.W.mem_of_lookupK e)
      skip; exact absurd (show false = true from h2) Bool.false_ne_true
  let tr : Addr → Option HO := fun b => if b = a then (if K.lookup a = none then some (.frz { cls := .type "list", data := .seq vs.toArray } (.lst (ns.map V.int))) else none) else if b ∈ cps.map (·.2) then some (.tbl #[]) else none
  obtain ⟨H, hH⟩ : ∃ H : Hp, H = tr := ⟨tr, rfl⟩
  have Ha : H a = if K.lookup a = none then some (.frz { cls := .type "list", data := .seq vs.toArray } (.lst (ns.map V.int))) else none := by rw [hH]; exact if_pos rfl
  have Hb : ∀ b, b ≠ a → b ∈ cps.map (·.2) → H b = some (.tbl #[]) := fun b h1 h2 => by rw [hH]; show (if _ then _ else _) = _; rw [if_neg h1, if_pos h2]
  have Hn : ∀ b, b ≠ a → b ∉ cps.map (·.2) → H b = none := fun b h1 h2 => by rw [hH]; show (if _ then _ else _) = _; rw [if_neg h1, if_neg h2]
  have each : ∀ b u, H b = some u → (b = a ∧ K.lookup a = none ∧ u = .frz { cls := .type "list", data := .seq vs.toArray } (.lst (ns.map V.int))) ∨ (u = .tbl #[] ∧ ∃ q ∈ cps, q.2 = b) := fun b u e => by
    by_cases h1 : b = a
    · subst h1
      rw [Ha] at e
      by_cases h2 : K.lookup b = none
      · rw [if_pos h2] at e; cases e; exact .inl ⟨rfl, h2, rfl⟩
      · rw [if_neg h2] at e; cases e
    · by_cases h2 : b ∈ cps.map (·.2)
      · rw [Hb b h1 h2] at e
        cases e
        obtain ⟨q, hq, rfl⟩ := List.mem_map.mp h2
        exact .inr ⟨rfl, q, hq, rfl⟩
      · rw [Hn b h1 h2] at e; cases e
  have kn : ∀ b u, H b = some u → K.lookup b = none := fun b u e => by
    rcases each b u e with ⟨rfl, h, _⟩ | ⟨_, q, hq, rfl⟩
    · exact h
    · exact tabK q hq
  have hok : HOk P w H s₁.heap := fun b u e => by
    rcases each b u e with ⟨rfl, h, rfl⟩ | ⟨rfl, q, hq, rfl⟩
    · exact ⟨ha, by rw [List.length_map]; exact hl, vs, _, rv, ha⟩
    · exact (hT q hq).2
  have hS : SqL K H a (ns.map V.int) := by
    cases hk : K.lookup a with
    | some o =>
      have e := KX a o hk
      rw [ha] at e
      cases e
      exact .inr ⟨_, vs.toArray, _, hk, rfl, rfl, rfl, by rw [List.size_toArray, lenV]; exact hl, by simpa using rv⟩
    | none => exact .inl (.inr ⟨{ cls := .type "list", data := .seq vs.toArray }, by rw [Ha, if_pos hk]⟩)
  have base_of : ∀ {b : Addr} {o : Obj}, s₁.heap.get? b = some o → H b = none → (hidT s₁.heap H).get? b = some o := fun e n => hidT_get e n
  have noA : ∀ {b : Addr} {o : Obj}, s₁.heap.get? b = some o → (∀ its n, o.data ≠ .seq its n) → (∀ fs, o.data ≠ .fields fs) → H b = none := fun {b o} e d1 d2 => by
    cases q : H b with
    | none => rfl
    | some u =>
      rcases each b u q with ⟨rfl, _, _⟩ | ⟨_, q', hq, rfl⟩
      · rw [ha] at e; cases e; exact (d1 _ _ rfl).elim
      · rw [(hT q' hq).2] at e; cases e; exact (d2 _ rfl).elim
  have nsK : ∀ {b : Addr} {m : Str → Option Value}, s₁.heap.Ns b m → (hidT s₁.heap H).Ns b m := fun {b m} ⟨o, es, ep, e, d, r⟩ => ⟨o, es, ep, base_of e (noA e (fun _ _ z => by rw [d] at z; cases z) fun _ z => by rw [d] at z; cases z), d, r⟩
  have hKb : K.In (hidT s₁.heap H) := fun b o e => base_of (KX b o e) (by
    cases q : H b with
    | none => rfl
    | some u => rw [kn b u q] at e; cases e)
  have hM : Mod K mg (hidT s₁.heap H) := ⟨hKb, nsK hns, ⟨mb, nsK hb, hbb⟩, let ⟨mc, h1, h2⟩ := hlim; ⟨mc, nsK h1, h2⟩, by
    obtain ⟨bm, ob, b1, b2, b3, b4, b5, b6⟩ := hbm
    exact ⟨bm, ob, b1, b2, base_of b3 (noA b3 (fun _ _ z => by rw [b6] at z; cases z) fun _ z => by rw [b6] at z; cases z), b4, b5, b6⟩⟩
  have e0 : Env0 P w K mg (hidT s₁.heap H) callerA [] s₁ H := ⟨rfl, hM, fun b o e => of_hidT e, Nat.le_of_eq (hidT_size _ _), trivial, fun b hb => absurd (show b ∈ ([] : List Addr) from hb) (by simp), hok, .of_eq hg⟩
  refine codeAny_mono ((F _ hKb (nsK hns)).run callerA [] s₁ H ⟨[.ref a], []⟩ [.ref a] [.ref a] _ _ hr e0 (hbind s₁ (.ref a)) (.cons rfl .nil) (hsp H (fun q hq => Hb _ (tabN q hq) (List.mem_map.mpr ⟨q, hq, rfl⟩)) hS)) fun r s' h => ?_
  cases r with
  | error e => exact (hCX H e s' h).elim
  | ok fl =>
    cases fl with
    | next => exact False.elim h
    | brk => exact False.elim h
    | cont => exact False.elim h
    | ret u =>
      obtain ⟨v, H', os, bare, un, hok', r', q⟩ := h
      have q' : v = .bl true := q
      subst q'
      obtain rfl : u = Value.bool true := r'
      have got : ∀ b o, s₁.heap.get? b = some o → s'.heap.get? b = some o ∨ (∃ q ∈ cps, q.2 = b ∧ ∃ more, s'.heap.get? b = some { cls := .none, data := .fields (#[] ++ more) }) := fun b o e => by
        cases q : H b with
        | none => exact .inl (un.keep b o e q (by intro z; exact absurd (show b ∈ ([] : List Addr) from z) (by simp)) (by simp))
        | some u =>
          rcases each b u q with ⟨rfl, _, rfl⟩ | ⟨rfl, q', hq, rfl⟩
          · have z2 := un.frzs b _ _ q
            obtain ⟨e1, _⟩ := hok b _ q
            obtain ⟨e2, _⟩ := hok' b _ z2
            rw [e] at e1; cases e1
            exact .inl e2
          · obtain ⟨more, z2⟩ := un.tbls _ _ q
            exact .inr ⟨q', hq, rfl, more, hok' _ _ z2⟩
      refine ⟨rfl, ⟨fun b o e => ?_, fun b o e => ?_⟩, os, bare⟩
      · rcases got b o e with z | ⟨q', hq, rfl, more, z⟩
        · exact .inl z
        · obtain ⟨h1, h2⟩ := hT q' hq
          rw [h2] at e
          cases e
          obtain ⟨oc, vc, file, tf, flags, tg, inF, text, tt, c1, c2, c3, c4, _⟩ := PySem.W.codeHd_of_K KX h1
          exact .inr (.inl ⟨⟨q'.1, oc, vc, c1, c2, c3, c4⟩, rfl, #[], more, rfl, z⟩)
      · rcases got b o e with z | ⟨_, _, _, _, z⟩
        · exact ⟨_, z⟩
        · exact ⟨_, z⟩
theorem walk_ofT {l : PySem.W.OpenLaw} {n k : Nat} {q : Program} {loose : List Str} {XP : (Str → Option Value) → Heap → Prop} {YP : World → Heap → Prop} {d : DefRec} {K : Params → PySem.W.Frag} {CX : World → CXT} {x : Str} {ts : List Addr}
    (hn : l.most = some n) (hn2 : n ≤ sizeLine) (hdf : d.params.defaults = []) (hr : Room k callerA)
    (hY : ∀ (w : World) (h : Heap), YP w h → (K w.params).In h) (hY2 : ∀ (w : World) (h : Heap), YP w h → ∀ P ∈ ts, h.get? P = some (PySem.W.tabObj #[]))
    (F : ∀ (w : World) (mg : Str → Option Value) (fa : Addr) (h : Heap), (K w.params).In h → h.Ns mainGlobals mg → mg d.name = some (.ref fa) →
      ∃ (fd : FuncData) (cps : List (Addr × Addr)) (sp : Sp), PySem.W.noTabs (K w.params) = true ∧ (∀ q ∈ cps, PySem.W.codeHdIn (K w.params) q.1 q.2 = true ∧ ts.contains q.2 = true) ∧ (∀ (s : Shared) (u : Value), BindsTo s fd ⟨[u], []⟩ [(x, u)]) ∧
        (∀ (H : Hp) (a : Addr) (ns : List Int), ns.length ≤ n → (∀ z ∈ ns, ib z ≤ 1048576) → (∀ q ∈ cps, H q.2 = some (.tbl #[])) → SqL (K w.params) H a (ns.map V.int) → sp [.ref a] H (fun v _ => v = .bl true) fun _ _ _ => False) ∧
        ∀ base : Heap, (K w.params).In base → base.Ns mainGlobals mg → FnOk l.prog w (K w.params) mg base (CX w) k fa fd [x] sp)
    (hCX : ∀ (w : World) (H : Hp) (s : Shared) (e : Value) (s' : Shared), CX w [] H s (fun _ _ _ => False) e s' → False) :
    PySem.W.WalkO q loose XP YP l.row.toRowW d [] (fun f vs => PySem.call f vs) := by
  refine attach_callB hn hdf fun w s₀ s₁ mg mb fa o pm cd doc a vs ns G Y ho hd hcd hmg hobj hints hlen hbit hg => ?_
  have KX := hY w _ Y
  obtain ⟨fd, cps, sp, hK, hT, hb, hsp, hF⟩ := F w mg fa _ KX G.T.g hmg
  exact law_callT KX G.T.g G.T.b G.T.builtins G.T.nolimit G.T.bmain hg hobj hints (Nat.le_trans hlen hn2) hr hK (fun q hq => ⟨(hT q hq).1, hY2 w _ Y _ (by have := (hT q hq).2; simpa using this)⟩) hF hb (fun H h1 hS => hsp H a ns hlen hbit h1 hS) fun H e s' => hCX w H s₁ e s'
section
variable {P : Program} {w : World} {K : PySem.W.Frag} {mg : Str → Option Value} {base : Heap}
theorem Fun.okL {x qual : Str} {st : Stmt} {f : Addr} {fd : FuncData} {N ps : List Str} {k : Nat} {sp : Sp} {c : Addr} (F : Fun K x qual st f fd) (hc : fd.code = .ref c) (S : FnScope N ps (defScope st)) (len : ∀ vs H Q E, sp vs H Q E → vs.length = ps.length)
    (hbody : ∀ (A : Around) (outer : List Env) (s : Shared) (H : Hp) (vs : List V) (Q : VK) (E : XK), Room k (A.deeper (envOfC qual (defScope st) s.heap.objs.size f (.ref c))) → sp vs H Q E →
      ∃ t, PSs (cxOf (CXU P w) P w K mg base N qual (defScope st) f (.ref c) A outer s H E).nox (defBody st) t ∧ t { nx := fun _ H' => Q .non H', rt := Q } (start N vs) H) : FnOk P w K mg base (CXU P w) (k + 1) f fd ps sp := by
  obtain ⟨oc, od, kV, doc, pm, an, cdv, ct, osl, rfl, lk, hcd⟩ := F.ex
  have e : cdv = .ref c := hc
  subst e
  refine fn_of lk hcd S len fun A outer s H vs Q E hr hsp => ?_
  obtain ⟨t, h, q⟩ := hbody A outer s H vs Q E hr hsp
  exact ⟨t, h.nox, q⟩
theorem Room.lam {j k : Nat} {A : Around} {env : Env} (h : j + 2 ≤ k) (r : Room k A) : Room j (A.in1.deeper env) := (r.mono h).in1.deeper env
end
structure NoC (K : PySem.W.Frag) (C B : Addr) : Prop where
  ha : PySem.W.findIn K (.ref C) "__class__" = some (some (.builtin "object.__class__"))
  hn : PySem.W.specialIn K (.builtin "object.__class__") "__get__" = some (some (.builtin "getset_descriptor.__get__"))
  htk : PySem.W.takesIn K (.builtin "object.__class__") = some true
  hm : PySem.W.mroIn K C (.type "object") = some true
  ki : PySem.W.kitOne K (.ref C) (.ref B) = some false
def ButT (x : Addr) (H H' : Hp) : Prop := ∀ b o, b ≠ x → H b = some o → noTb o = true → H' b = some o
theorem ExtT.but {x : Addr} {H H1 H2 : Hp} (a : ExtT H H1) (b : ButT x H1 H2) (hn : H x = none) : ExtT H H2 := fun y o h t => b y o (ne_of_none h hn) (a y o h t) t
theorem ExtT.ext {H H1 H2 : Hp} (a : ExtT H H1) (b : Ext H1 H2) : ExtT H H2 := a.tr (Ext.toT b)
theorem bestOf_min {lt : Nat → Nat → Bool} (irr : ∀ i, lt i i = false) (tr : ∀ i j k, lt i j = true → lt j k = true → lt i k = true) : ∀ n i, i ≤ n → lt i (bestOf lt n) = false
  | 0, i, h => by rw [show i = 0 by omega]; exact irr 0
  | n + 1, i, h => by
    show lt i (if lt (n + 1) (bestOf lt n) = true then n + 1 else bestOf lt n) = false
    by_cases c : lt (n + 1) (bestOf lt n) = true
    · rw [if_pos c]
      by_cases e : i = n + 1
      · rw [e]; exact irr _
      · cases d : lt i (n + 1) with
        | false => rfl
        | true =>
          have := bestOf_min irr tr n i (by omega)
          rw [tr _ _ _ d c] at this
          cases this
    · rw [if_neg c]
      by_cases e : i = n + 1
      · rw [e]; simpa using c
      · exact bestOf_min irr tr n i (by omega)
theorem lti_irr (kf : Nat → Int) (i : Nat) : lti kf i i = false := decide_eq_false (by omega)
theorem lti_tr (kf : Nat → Int) (i j k : Nat) (h1 : lti kf i j = true) (h2 : lti kf j k = true) : lti kf i k = true := by
  have h1 := of_decide_eq_true h1
  have h2 := of_decide_eq_true h2
  skip; exact decide_eq_true (by omega)
def LamH (H : Hp) (f : Addr) (qual : Str) (params : Arguments) (lb : Expr) (sc : Scope) : Prop := ∃ (c : Addr) (pm ctv : Value), H f = some (.frz (PySem.W.kla_obj "<lambda>" qual params lb sc [] pm c ctv) (.own f)) ∧ CodeH H c qual
theorem LamH.mono {H H' : Hp} {f : Addr} {qual : Str} {params : Arguments} {lb : Expr} {sc : Scope} (e : ExtT H H') (h : LamH H f qual params lb sc) : LamH H' f qual params lb sc := by
  obtain ⟨c, pm, ctv, h1, h2⟩ := h
  exact ⟨c, pm, ctv, e _ _ h1 rfl, h2.mono e⟩
theorem LamH.but {H H' : Hp} {f r C dx : Addr} {fs : List (Str × V)} {qual : Str} {params : Arguments} {lb : Expr} {sc : Scope} (hr : H r = some (.ins C dx fs)) (e : But r H H') (h : LamH H f qual params lb sc) : LamH H' f qual params lb sc := by
  obtain ⟨c, pm, ctv, h1, oc, vs, t, k, k2⟩ := h
  exact ⟨c, pm, ctv, e _ _ (fun z => by rw [z, hr] at h1; cases h1) h1, oc, vs, t, e _ _ (fun z => by rw [z, hr] at k; cases k) k, k2⟩
theorem Room.lam1 {j k : Nat} {A : Around} {env : Env} (h : j + 1 ≤ k) (r : Room k A) : Room j (A.deeper env) := (r.mono h).deeper env
def stVal : Stmt → Expr
  | .Assign _ v _ => v
  | .Return (some v) _ => v
  | _ => .Constant .none 0 ⟨0, 0, 0, 0⟩
def callArg (i : Nat) : Expr → Expr
  | .Call _ as _ _ => as.getD i (.Constant .none 0 ⟨0, 0, 0, 0⟩)
  | _ => .Constant .none 0 ⟨0, 0, 0, 0⟩
def lamA : Expr → Arguments
  | .Lambda p _ _ _ => p
  | _ => { posonlyargs := [], args := [], vararg := none, kwonlyargs := [], kw_defaults := [], kwarg := none, defaults := [] }
def lamB : Expr → Expr
  | .Lambda _ b _ _ => b
  | e => e
def lamS : Expr → Scope
  | .Lambda _ _ s _ => s
  | _ => { kind := .function, names := [], isGenerator := false, isCoroutine := false }
structure RiseG (w : World) (t : SetTable) (n : Nat) (sl : Nat → Nat) : Prop where
  fits : t.fits n = true
  dr : byT w = false → (!t.plain && decide (n > 1)) = false
  zero : sl 0 = 0
  low : ∀ i, i ≤ n → SetTable.below t.place (sl i) = i
  step : ∀ i, i < n → ∃ j, t.place[i]? = some j ∧ j + 1 = sl (i + 1)
section
variable {prog : Program} {w : World} {A : Around} {E : Value → Shared → Prop} {s : Shared}
def RowET (prog : Program) (w : World) (Z : Addr → List Str → Prop) (h : Heap) (e : Int × Value) (L : List Str) : Prop := ∃ a, e.2 = .ref a ∧ IsTupleKey (PySem.strKind prog w) h L a ∧ e.1 = tupleKeyHash (PySem.strKind prog w) L ∧ Z a L
inductive RowsET (prog : Program) (w : World) (Z : Addr → List Str → Prop) (h : Heap) : List (Int × Value) → List (List Str) → Prop
  | nil : RowsET prog w Z h [] []
  | cons {e : Int × Value} {L : List Str} {es : List (Int × Value)} {Ls : List (List Str)} : RowET prog w Z h e L → RowsET prog w Z h es Ls → RowsET prog w Z h (e :: es) (L :: Ls)
theorem RowsET.length {Z : Addr → List Str → Prop} {h : Heap} {es : List (Int × Value)} {Ls : List (List Str)} (r : RowsET prog w Z h es Ls) : es.length = Ls.length := by
  induction r with
  | nil => rfl
  | cons _ _ ih => simp [ih]
theorem RowsET.get {Z : Addr → List Str → Prop} {h : Heap} {es : List (Int × Value)} {Ls : List (List Str)} (r : RowsET prog w Z h es Ls) : ∀ (i : Nat) (hi : i < es.length), RowET prog w Z h es[i] (Ls.getD i []) := by
  induction r with
  | nil => exact fun i hi => by simp at hi
  | cons e _ ih =>
    intro i hi
    cases i with
    | zero => simpa using e
    | succ i => simpa using ih i (by simpa using hi)
theorem RowsET.perm {Z : Addr → List Str → Prop} {h : Heap} {us es : List (Int × Value)} (p : us.Perm es) : ∀ {Ls : List (List Str)}, RowsET prog w Z h es Ls → ∃ Ms, RowsET prog w Z h us Ms ∧ Ms.Perm Ls := by
  induction p with
  | nil => intro Ls r; exact ⟨Ls, r, List.Perm.refl _⟩
  | cons x _ ih =>
    intro Ls r
    cases r with
    | cons e r =>
      obtain ⟨m, a, b⟩ := ih r
      exact ⟨_, .cons e a, b.cons _⟩
  | swap x y l =>
    intro Ls r
    cases r with
    | cons e r =>
      cases r with
      | cons e2 r2 => exact ⟨_, .cons e2 (.cons e r2), List.Perm.swap _ _ _⟩
  | trans _ _ i1 i2 =>
    intro Ls r
    obtain ⟨m, a, b⟩ := i2 r
    obtain ⟨m2, a2, b2⟩ := i1 a
    exact ⟨m2, a2, b2.trans b⟩
theorem key_keptT {h h' : Heap} {L : List Str} {a : Addr} (k : IsTupleKey (PySem.strKind prog w) h L a) (e : ∀ o, o.cls = .type "tuple" → h.get? a = some o → h'.get? a = some o) : IsTupleKey (PySem.strKind prog w) h' L a := by
  obtain ⟨o, items, n, ho, hc, r⟩ := k
  exact ⟨o, items, n, e o hc ho, hc, r⟩
theorem RowsET.kept {Z : Addr → List Str → Prop} {h h' : Heap} {es : List (Int × Value)} {Ls : List (List Str)} (r : RowsET prog w Z h es Ls) (e : ∀ b o, o.cls = .type "tuple" → h.get? b = some o → h'.get? b = some o) : RowsET prog w Z h' es Ls := by
  induction r with
  | nil => exact .nil
  | cons x _ ih =>
    obtain ⟨a, x1, x2, x3⟩ := x
    exact .cons ⟨a, x1, key_keptT x2 (e a), x3⟩ ih
end
end L2
set_option Elab.async false
set_option linter.all false
set_option maxRecDepth 100000
set_option maxHeartbeats 4000000
namespace L2
open PySem PySem.Spec PyProof.Rows PySem.W
def cpm (L : List Str) : List (List Nat) := L.map fun x => x.cps.toList
inductive StrsV : List Value → List Str → Prop
  | nil : StrsV [] []
  | cons (n : Str) (t : Tok) {vs : List Value} {ns : List Str} : StrsV vs ns → StrsV (.str n t :: vs) (n :: ns)
theorem StrsV.length {vs : List Value} {ns : List Str} (r : StrsV vs ns) : vs.length = ns.length := by
  induction r with
  | nil => rfl
  | cons _ _ _ ih => simp [ih]
theorem items_strs {prog : Program} {w : World} {ks : List Str} {vs : List Value} (h : ItemsAre (PySem.strKind prog w) ks vs) : StrsV vs ks := by
  induction h with
  | nil => exact .nil
  | @cons k v ks vs h1 _ ih =>
    obtain ⟨t, e⟩ := Value.isStrOf_shape h1
    subst e
    exact .cons k t ih
section
variable {prog : Program} {w : World} {A : Around} {E : Value → Shared → Prop} {s : Shared}
def RowsAtT (h : Heap) : List Value → List (List Str) → Prop
  | [], [] => True
  | v :: vs, L :: Ls => (∃ a its, v = .ref a ∧ IsTup h a its ∧ StrsV its.toList L ∧ L ≠ []) ∧ RowsAtT h vs Ls
  | _, _ => False
theorem RowsAtT.kept {h h' : Heap} {x : Addr} {zs : Array Value} {n : Nat} (hx : h.get? x = some (seqObj "list" zs n)) (e : ∀ b o, b ≠ x → h.get? b = some o → h'.get? b = some o) : ∀ {vs : List Value} {Ls : List (List Str)}, RowsAtT h vs Ls → RowsAtT h' vs Ls
  | [], [], _ => trivial
  | [], _ :: _, r => r.elim
  | _ :: _, [], r => r.elim
  | v :: vs, L :: Ls, ⟨⟨a, its, e1, e2, e3, e4⟩, r⟩ => by
    refine ⟨⟨a, its, e1, tup_at e2 fun o q => e a o (fun z => ?_) q, e3, e4⟩, RowsAtT.kept hx e r⟩
    subst z
    obtain ⟨o, ho, hc, _⟩ := e2
    rw [hx] at ho
    cases ho
    exact absurd (show Value.type "list" = Value.type "tuple" from hc) (by decide)
theorem RowsAtT.get {h : Heap} : ∀ {vs : List Value} {Ls : List (List Str)} {i : Nat}, RowsAtT h vs Ls → i < vs.length → ∃ a its, vs.getD i .none = .ref a ∧ IsTup h a its ∧ StrsV its.toList (Ls.getD i [])
  | [], [], i, _, hi => by simp at hi
  | [], _ :: _, _, r, _ => r.elim
  | _ :: _, [], _, r, _ => r.elim
  | v :: vs, L :: Ls, 0, ⟨⟨a, its, e1, e2, e3, e4⟩, r⟩, _ => ⟨a, its, e1, e2, e3⟩
  | v :: vs, L :: Ls, i + 1, ⟨_, r⟩, hi => by
    obtain ⟨a, its, e1, e2, e3⟩ := RowsAtT.get (i := i) r (by simpa using hi)
    exact ⟨a, its, by simpa using e1, e2, by simpa using e3⟩
end
inductive RowsVT (prog : Program) (w : World) (Z : Addr → List Str → Prop) (h : Heap) : List Value → List (List Str) → Prop
  | nil : RowsVT prog w Z h [] []
  | cons {a : Addr} {L : List Str} {vs : List Value} {Ls : List (List Str)} : IsTupleKey (PySem.strKind prog w) h L a → Z a L → RowsVT prog w Z h vs Ls → RowsVT prog w Z h (.ref a :: vs) (L :: Ls)
section
variable {prog : Program} {w : World} {A : Around} {E : Value → Shared → Prop} {s : Shared} {Z : Addr → List Str → Prop} {h : Heap}
theorem RowsVT.length {vs : List Value} {Ls : List (List Str)} (r : RowsVT prog w Z h vs Ls) : vs.length = Ls.length := by
  induction r with
  | nil => rfl
  | cons _ _ _ ih => simp [ih]
theorem RowsVT.kept {h' : Heap} {vs : List Value} {Ls : List (List Str)} (r : RowsVT prog w Z h vs Ls) (e : ∀ b o, o.cls = .type "tuple" → h.get? b = some o → h'.get? b = some o) : RowsVT prog w Z h' vs Ls := by
  induction r with
  | nil => exact .nil
  | cons x y _ ih => exact .cons (key_keptT x (e _)) y ih
theorem RowsVT.at {vs : List Value} {Ls : List (List Str)} (r : RowsVT prog w Z h vs Ls) (hne : ∀ L ∈ Ls, L ≠ []) : RowsAtT h vs Ls := by
  induction r with
  | nil => trivial
  | @cons a L vs Ls x y _ ih =>
    obtain ⟨o, items, n, ho, hc, hd, hi⟩ := x
    exact ⟨⟨a, items, rfl, ⟨o, ho, hc, n, hd⟩, items_strs hi, hne L List.mem_cons_self⟩, ih fun M hM => hne M (List.mem_cons_of_mem _ hM)⟩
theorem RowsVT.perm {us vs : List Value} (p : us.Perm vs) : ∀ {Ls : List (List Str)}, RowsVT prog w Z h vs Ls → ∃ Ms, RowsVT prog w Z h us Ms ∧ Ms.Perm Ls := by
  induction p with
  | nil => intro Ls r; exact ⟨Ls, r, List.Perm.refl _⟩
  | cons x _ ih =>
    intro Ls r
    cases r with
    | cons e f r =>
      obtain ⟨m, a, b⟩ := ih r
      exact ⟨_, .cons e f a, b.cons _⟩
  | swap x y l =>
    intro Ls r
    cases r with
    | cons e f r =>
      cases r with
      | cons e2 f2 r2 => exact ⟨_, .cons e2 f2 (.cons e f r2), List.Perm.swap _ _ _⟩
  | trans _ _ i1 i2 =>
    intro Ls r
    obtain ⟨m, a, b⟩ := i2 r
    obtain ⟨m2, a2, b2⟩ := i1 a
    exact ⟨m2, a2, b2.trans b⟩
end
inductive RefsHT (H : Hp) : List V → List (List Str) → Prop
  | nil : RefsHT H [] []
  | cons {a : Addr} {L : List Str} {vs : List V} {Ls : List (List Str)} : H a = some (.tup (L.map V.str)) → RefsHT H vs Ls → RefsHT H (.ref a :: vs) (L :: Ls)
theorem RefsHT.length {H : Hp} {vs : List V} {Ls : List (List Str)} (r : RefsHT H vs Ls) : vs.length = Ls.length := by
  induction r with
  | nil => rfl
  | cons _ _ ih => simp [ih]
theorem RefsHT.mono {H H' : Hp} (e : Ext H H') {vs : List V} {Ls : List (List Str)} (r : RefsHT H vs Ls) : RefsHT H' vs Ls := by
  induction r with
  | nil => exact .nil
  | cons x _ ih => exact .cons (e _ _ x) ih
theorem RefsHT.get {H : Hp} {vs : List V} {Ls : List (List Str)} (r : RefsHT H vs Ls) : ∀ (i : Nat) (v : V), vs[i]? = some v → ∃ a, v = .ref a ∧ H a = some (.tup ((Ls.getD i []).map V.str)) := by
  induction r with
  | nil => intro i v h; simp at h
  | cons x _ ih =>
    intro i v h
    cases i with
    | zero => simp at h; subst h; exact ⟨_, rfl, by simpa using x⟩
    | succ i => simpa using ih i v (by simpa using h)
section
open PySem.SeqAt
open PySem.AutoSeq1 (wpAny_loadPart')
open PySem.MeetsSeq PySem.MeetsSeq2 PySem.MeetsSeq3
end
end L2
set_option Elab.async false
set_option linter.all false
set_option maxRecDepth 100000
set_option maxHeartbeats 4000000
namespace L2
open PySem PySem.Spec PyProof.Rows PySem.W
def pairLtT (p q : List Str × Int) : Prop := cpm p.1 < cpm q.1 ∨ (p.1 = q.1 ∧ p.2 < q.2)
instance (p q : List Str × Int) : Decidable (pairLtT p q) := by unfold pairLtT; infer_instance
inductive PairsAtT (prog : Program) (w : World) (h : Heap) : List Value → List (List Str × Int) → Prop
  | nil : PairsAtT prog w h [] []
  | cons {c a : Addr} {L : List Str} {x : Int} {t : Tok} {vs : List Value} {Ks : List (List Str × Int)} : IsTup h c #[.ref a, .int x t] → IsTupleKey (PySem.strKind prog w) h L a → PairsAtT prog w h vs Ks → PairsAtT prog w h (.ref c :: vs) ((L, x) :: Ks)
section
variable {prog : Program} {w : World} {A : Around} {E : Value → Shared → Prop} {s : Shared}
theorem PairsAtT.length {h : Heap} {vs : List Value} {Ks : List (List Str × Int)} (r : PairsAtT prog w h vs Ks) : vs.length = Ks.length := by
  induction r with
  | nil => rfl
  | cons _ _ _ ih => simp [ih]
theorem PairsAtT.kept {h h' : Heap} (e : ∀ b o, o.cls = .type "tuple" → h.get? b = some o → h'.get? b = some o) {vs : List Value} {Ks : List (List Str × Int)} (r : PairsAtT prog w h vs Ks) : PairsAtT prog w h' vs Ks := by
  induction r with
  | nil => exact .nil
  | cons x y _ ih =>
    obtain ⟨o, ho, hc, hr⟩ := x
    exact .cons ⟨o, e _ _ hc ho, hc, hr⟩ (key_keptT y (e _)) ih
theorem PairsAtT.get {h : Heap} {vs : List Value} {Ks : List (List Str × Int)} (r : PairsAtT prog w h vs Ks) : ∀ i, i < vs.length → ∃ c a t, vs.getD i .none = .ref c ∧ IsTup h c #[.ref a, .int (Ks.getD i ([], 0)).2 t] ∧ IsTupleKey (PySem.strKind prog w) h (Ks.getD i ([], 0)).1 a := by
  induction r with
  | nil => exact fun i hi => by simp at hi
  | @cons c a L x t vs Ks x y _ ih =>
    intro i hi
    cases i with
    | zero => exact ⟨c, a, t, rfl, by simpa using x, by simpa using y⟩
    | succ i => simpa using ih i (by simpa using hi)
end
inductive PairsHT (H : Hp) : List V → List (List Str × Int) → Prop
  | nil : PairsHT H [] []
  | cons {c a : Addr} {L : List Str} {x : Int} {vs : List V} {Ks : List (List Str × Int)} : H c = some (.tup [.ref a, .int x]) → H a = some (.tup (L.map V.str)) → PairsHT H vs Ks → PairsHT H (.ref c :: vs) ((L, x) :: Ks)
theorem PairsHT.length {H : Hp} {vs : List V} {Ks : List (List Str × Int)} (r : PairsHT H vs Ks) : vs.length = Ks.length := by
  induction r with
  | nil => rfl
  | cons _ _ _ ih => simp [ih]
theorem PairsHT.mono {H H' : Hp} (e : Ext H H') {vs : List V} {Ks : List (List Str × Int)} (r : PairsHT H vs Ks) : PairsHT H' vs Ks := by
  induction r with
  | nil => exact .nil
  | cons x y _ ih => exact .cons (e _ _ x) (e _ _ y) ih
section
open PySem.SeqAt
open PySem.AutoSeq1 (wpAny_loadPart')
open PySem.MeetsSeq PySem.MeetsSeq2 PySem.MeetsSeq3
end
section
variable {prog : Program} {w : World} {A : Around} {E : Value → Shared → Prop} {s : Shared} {d it : Addr} {o : Obj} {es : Array DictEntry} {i ep : Nat}
theorem xd_type (ho : s.heap.get? d = some o) (hc : o.ExactDict) : s.TypeIs (.ref d) "dict" := ⟨o, ho, hc.1⟩
theorem ki_iter {Q : Value → Shared → Prop} (hd : (d == sysModules) = false) (ho : s.heap.get? d = some o) (hc : o.ExactDict) (hdat : o.data = .dict es ep)
    (hQ : ∀ h', h'.IsKeyIter s.heap.objs.size d 0 es.size ep → (∀ b u, s.heap.get? b = some u → h'.get? b = some u) → Q (.ref s.heap.objs.size) { s with heap := h' }) : wpAny (model prog w) A (pyIter (.ref d)) Q E s := by
  have hT := xd_type ho hc
  refine wpAny_pyIter_slot hT PySem.F.slot_dict_iter (wpAny_call_entry PySem.F.slot_dict_iter hT PySem.F.entry_dict_iter ?_ (PySem.F.args_dict_iter_1 _))
  skip; unfold Builtin.«dict.__iter__»
  refine wpAny_bind ?_
  skip; unfold Builtin.Dict.dictSlotNone
  refine wpAny_bind (wpAny_notOrdered_dict hT ?_); show wpAny _ _ (pure (Value.ref d)) _ _ s
  refine wpAny_pure ?_; show wpAny _ _ (Builtin.Dict.showsAll d >>= _) _ _ s
  unfold Builtin.Dict.showsAll; rw [if_neg (by rw [hd]; decide)]
  refine wpAny_bind (wpAny_pure (wpAny_bind (wpAny_dictEntries ho hdat (wpAny_bind (wpAny_dictEpoch ho hdat ?_)))))
  refine wpAny_bind (wpAny_newObj_type (wpAny_pure ⟨_, rfl, "dict_keyiterator", _, ⟨_, Heap.get?_push_size _ rfl, rfl⟩, PySem.F.slot_dict_keyiterator_next.lookup, ?_⟩))
  exact hQ _ ⟨_, Heap.get?_push_size _ rfl, rfl, rfl⟩ fun b u e => Heap.get?_push_of_some _ e
theorem ki_item {Q : Option Value → Shared → Prop} (hit : s.heap.IsKeyIter it d i es.size ep) (ho : s.heap.get? d = some o) (hc : o.ExactDict) (hdat : o.data = .dict es ep) (hlt : i < es.size)
    (hQ : ∀ h', h'.IsKeyIter it d (i + 1) es.size ep → Heap.SameBut it s.heap h' → Q (some es[i].key) { s with heap := h' }) : wpAny (model prog w) A (pyNext (.ref it)) Q E s := by
  obtain ⟨oi, hoi, hci, hdi⟩ := id hit
  unfold pyNext
  refine wpAny_bind (wpAny_attempt (wpAny_callSpecial?_slot (name := Str.ofString "__next__") hit.typeIs PySem.F.slot_dict_keyiterator_next (wpAny_call_entry PySem.F.slot_dict_keyiterator_next hit.typeIs PySem.F.entry_dict_keyiterator_next ?_ (PySem.F.args_dict_keyiterator_next_1 _))))
  refine wpAny_bind (wpAny_pure (wpAny_bind (wpAny_bind ?_)))
  first | refine wpAny_bind (wpAny_typeNameOfWhole_keyiter hit.typeIs (wpAny_pure (wpAny_bind (wpAny_fieldsOf hoi hdi ?_)))) | refine wpAny_bind (wpAny_typeNameOf_keyiter hit.typeIs (wpAny_pure (wpAny_bind (wpAny_fieldsOf hoi hdi ?_))))
  simp only [show Builtin.Dict_items.ownsTuple "dict_keyiterator" = false by decide, Bool.false_eq_true, if_false]
  show wpAny _ _ (if (Value.ref d == Value.none) = true then _ else _) _ _ s; rw [if_neg (show ¬ ((Value.ref d == Value.none) = true) by exact Bool.false_ne_true)]
  refine wpAny_bind (wpAny_pure (wpAny_bind (wpAny_dictEntries ho hdat ?_))); rw [if_neg (by simp)]
  refine wpAny_bind (wpAny_pure (wpAny_bind (wpAny_dictEpoch ho hdat ?_))); rw [if_neg (by simp)]
  refine wpAny_pure ?_
  simp only [show ¬ ((i : Int) < 0) by omega, if_false, Int.toNat_natCast, Array.getElem?_eq_getElem hlt]
  refine wpAny_bind ?_
  first | refine wpAny_bind (wpAny_typeNameOfWhole_keyiter hit.typeIs (wpAny_pure (wpAny_bind (wpAny_isOneOf_keyiter hit.typeIs ?_)))) | refine wpAny_bind (wpAny_typeNameOf_keyiter hit.typeIs (wpAny_pure (wpAny_bind (wpAny_isOneOf_keyiter hit.typeIs ?_))))
  show wpAny _ _ (setField (.ref it) 1 (rawInt ((i : Int) + 1)) >>= _) _ _ s; refine wpAny_bind (wpAny_setField hoi hdi (by simp) ?_)
  have hit' : (s.heap.update it (Obj.mapFields (·.setIfInBounds 1 (rawInt ((i : Int) + 1))))).IsKeyIter it d (i + 1) es.size ep :=
    ⟨_, Heap.get?_update_self _ hoi (Obj.isFreed_of_fields (Obj.data_mapFields hdi _)), (Obj.cls_mapFields ..).trans hci, (Obj.data_mapFields hdi _).trans (by simp [rawInt])⟩
  refine wpAny_bind (wpAny_holding (wpAny_bind (wpAny_isOneOf_keyiter (s := { s with heap := s.heap.update it (Obj.mapFields (·.setIfInBounds 1 (rawInt ((i : Int) + 1)))) }) hit'.typeIs ?_)))
  skip; show wpAny _ _ (pure es[i].key) _ _ _
  exact wpAny_pure (wpAny_pure ⟨_, rfl, wpAny_pure (hQ _ hit' (Heap.SameBut.update ..))⟩)
theorem ki_end {Q : Option Value → Shared → Prop} (hh : A.handled = none) (hit : s.heap.IsKeyIter it d i es.size ep) (ho : s.heap.get? d = some o) (hc : o.ExactDict) (hdat : o.data = .dict es ep) (hge : es.size ≤ i)
    (hQ : ∀ h2, Heap.ExtBut it s.heap h2 → Q none { s with heap := h2 }) : wpAny (model prog w) A (pyNext (.ref it)) Q E s := by
  obtain ⟨oi, hoi, hci, hdi⟩ := id hit
  unfold pyNext
  refine wpAny_bind (wpAny_attempt (wpAny_callSpecial?_slot (name := Str.ofString "__next__") hit.typeIs PySem.F.slot_dict_keyiterator_next (wpAny_call_entry PySem.F.slot_dict_keyiterator_next hit.typeIs PySem.F.entry_dict_keyiterator_next ?_ (PySem.F.args_dict_keyiterator_next_1 _))))
  refine wpAny_bind (wpAny_pure (wpAny_bind (wpAny_bind ?_)))
  first | refine wpAny_bind (wpAny_typeNameOfWhole_keyiter hit.typeIs (wpAny_pure (wpAny_bind (wpAny_fieldsOf hoi hdi ?_)))) | refine wpAny_bind (wpAny_typeNameOf_keyiter hit.typeIs (wpAny_pure (wpAny_bind (wpAny_fieldsOf hoi hdi ?_))))
  simp only [show Builtin.Dict_items.ownsTuple "dict_keyiterator" = false by decide, Bool.false_eq_true, if_false]
  show wpAny _ _ (if (Value.ref d == Value.none) = true then _ else _) _ _ s; rw [if_neg (show ¬ ((Value.ref d == Value.none) = true) by exact Bool.false_ne_true)]
  refine wpAny_bind (wpAny_pure (wpAny_bind (wpAny_dictEntries ho hdat ?_))); rw [if_neg (by simp)]
  refine wpAny_bind (wpAny_pure (wpAny_bind (wpAny_dictEpoch ho hdat ?_))); rw [if_neg (by simp)]
  refine wpAny_pure ?_
  simp only [show ¬ ((i : Int) < 0) by omega, if_false, Int.toNat_natCast, Array.getElem?_eq_none hge]
  refine wpAny_bind ?_
  first | fail | refine wpAny_bind (wpAny_typeNameOfWhole_keyiter hit.typeIs (wpAny_pure ?_)) | refine wpAny_bind (wpAny_typeNameOf_keyiter hit.typeIs (wpAny_pure ?_))
  show wpAny _ _ (setField (.ref it) 0 .none >>= _) _ _ s; refine wpAny_bind (wpAny_setField hoi hdi (by simp) ?_)
  show wpAny _ _ (newExc (.type "StopIteration") [] >>= _) _ _ _; refine wpAny_bind ?_
  simp only [newExc, newTuple]
  refine wpAny_bind (wpAny_newObj_type (wpAny_bind (m := firstArgMember _ _) (wpAny_of_eq (a := Value.none) (by first | rfl | (simp only [firstArgMember]; rfl)) ?_)) (by size_fits))
  skip; refine wpAny_newObj_type ?_ (by size_fits)
  simp only [raiseNew]; refine wpAny_bind (wpAny_handled ?_)
  rw [show A.in1.handled = none from hh]; refine wpAny_bind (wpAny_pure (wpAny_throw ?_))
  refine wpAny_bind (wpAny_isInstance (T := "StopIteration") (b := true) ⟨_, Heap.get?_push_size _ rfl, rfl⟩ isSubtype_stop (wpAny_pure (hQ _ (((Heap.SameBut.update ..).extBut.push _).push _))))
theorem ki_self {Q : Value → Shared → Prop} {n : Nat} (hit : s.heap.IsKeyIter it d i n ep) (h : Q (.ref it) s) : wpAny (model prog w) A (pyIter (.ref it)) Q E s := by
  refine wpAny_pyIter_slot hit.typeIs PySem.F.slot_dict_keyiterator_iter (wpAny_call_entry PySem.F.slot_dict_keyiterator_iter hit.typeIs PySem.F.entry_dict_keyiterator_iter ?_ (PySem.F.args_dict_keyiterator_iter_1 _))
  exact wpAny_pure ⟨_, rfl, "dict_keyiterator", _, hit.typeIs, PySem.F.slot_dict_keyiterator_next.lookup, h⟩
end
theorem is_kV {P : Program} {w : World} : ∀ {k : Key} {u : Value}, (mixKind P w).is k u = true → RelV (kV k) u
  | .inl i, u, h => by
    obtain ⟨t, rfl⟩ := PySem.Value.isInt_shape (show PySem.Value.isInt _ u = true from h)
    exact ⟨t, rfl⟩
  | .inr x, u, h => by
    obtain ⟨t, rfl⟩ := PySem.Value.isStrOf_shape (show PySem.Value.isStrOf _ u = true from h)
    exact ⟨t, rfl⟩
def ItdK (a : Addr) (o : Obj) : It :=
  ⟨fun i H => ∃ kvs, H a = some (.frz o (.dK kvs)) ∧ i < kvs.length, fun i H x H' => H' = H ∧ ∀ kvs, H a = some (.frz o (.dK kvs)) → ∃ kv, kvs[i]? = some kv ∧ x = kV kv.1, fun i H => ∃ kvs, H a = some (.frz o (.dK kvs)) ∧ kvs.length ≤ i⟩
theorem fz_k {P : Program} {w : World} {H : Hp} {h : Heap} {a : Addr} {o : Obj} {kvs : List (Key × V)} (ok : HOk P w H h) (e : H a = some (.frz o (.dK kvs))) : h.get? a = some o ∧ o.ExactDict ∧ (a == sysModules) = false ∧ ∃ es ep, o.data = .dict es ep ∧ es.size = kvs.length ∧ ∀ (i : Nat) (hi : i < es.size), ∃ kv, kvs[i]? = some kv ∧ RelV (kV kv.1) es[i].key := by
  obtain ⟨h1, z, y, vs, rel, o', es, ep, g, c, dt, ks, ps, nd⟩ := (show ObjOk P w H h a (.frz o (.dK kvs)) from ok a _ e)
  rw [h1] at g
  cases g
  have l1 : es.size = vs.length := by rw [← ps.length]; simp
  have l2 := rel.length
  refine ⟨h1, c, y, es, ep, dt, by omega, fun i hi => ?_⟩
  have hk : i < kvs.length := by omega
  have hv : i < vs.length := by omega
  obtain ⟨q1, _⟩ := ps.get? (i := i) (e := es[i]) (by simp [hi]) (show vs[i]? = some (vs[i].1, vs[i].2) by rw [List.getElem?_eq_getElem hv])
  refine ⟨kvs[i], List.getElem?_eq_getElem hk, ?_⟩
  have ek : (kvs.map (·.1))[i]? = (vs.map (·.1))[i]? := by rw [rel.keys]
  rw [List.getElem?_map, List.getElem?_map, List.getElem?_eq_getElem hk, List.getElem?_eq_getElem hv] at ek
  injection ek with ek
  have ek' : kvs[i].1 = vs[i].1 := ek
  rw [ek']
  exact is_kV q1
theorem Paired.at {α β : Type} {F : α → β → Prop} {l₁ : List α} {l₂ : List β} (r : Paired F l₁ l₂) : ∀ (i : Nat) (a : α) (b : β), l₁[i]? = some a → l₂[i]? = some b → F a b := by
  induction r with
  | nil => intro i a b h; simp at h
  | cons x _ ih =>
    intro i a b h1 h2
    cases i with
    | zero => simp at h1 h2; subst h1 h2; exact x
    | succ i => exact ih i a b (by simpa using h1) (by simpa using h2)
theorem turn_dictK {P : Program} {w : World} {K : PySem.W.Frag} {tg : Expr} (a it : Addr) (o : Obj) {es : Array DictEntry} {ep : Nat} (hd : o.data = .dict es ep) : Turn P w K tg (ItdK a o) [it] it (fun i h => h.IsKeyIter it a i es.size ep) where
  mem := List.mem_singleton.mpr rfl
  obj := fun i h st b hb => by
    cases List.mem_singleton.mp hb
    obtain ⟨u, e, _, d⟩ := st
    exact ⟨u, e, fun v z => by rw [d] at z; cases z⟩
  keep := fun i h h' st k => let ⟨u, e, r⟩ := st; ⟨u, k it (List.mem_singleton.mpr rfl) u e, r⟩
  item := by
    intro X hP hw hK hc i pins s σ H E I hf st hg
    subst hP hw hK
    obtain ⟨kvs, hq, hx⟩ := hg
    obtain ⟨g1, g2, g3, es', ep', g4, g5, g6⟩ := fz_k I.hok hq
    rw [hd] at g4
    cases g4
    obtain ⟨f0, f1, f2, f3, f4, f5⟩ := hf it (List.mem_singleton.mpr rfl)
    obtain ⟨kv, k1, k2⟩ := g6 i (by omega)
    refine ki_item st g1 g2 hd (by omega) fun h' st' sb => ?_
    have I1 : Inv X pins σ H { s with heap := h' } := I.turned (t' := s.toks) (fun b u hb e => (sb.2 b hb).trans e) f0 f1 f3 f4 f5
    obtain ⟨u, e, c, d⟩ := id st'
    exact ⟨_, rfl, go_of (s := { s with heap := h' }) e c d (by decide) ⟨kV kv.1, H, I1, k2, ⟨rfl, fun kvs' hk' => ⟨kv, by rw [hq] at hk'; cases hk'; exact k1, rfl⟩⟩, st', fun b hb => (hf b hb).1⟩⟩
  done := by
    intro X hP hw hK hc i pins s σ H E I hf st hg
    subst hP hw hK
    obtain ⟨kvs, hq, hx⟩ := hg
    obtain ⟨g1, g2, g3, es', ep', g4, g5, g6⟩ := fz_k I.hok hq
    rw [hd] at g4
    cases g4
    obtain ⟨f0, f1, f2, f3, f4, f5⟩ := hf it (List.mem_singleton.mpr rfl)
    exact ki_end (I.ok.hd hc) st g1 g2 hd (by omega) fun h' eb => ⟨rfl, I.turned (t' := s.toks) (fun b u hb e => eb b u hb e) f0 f1 f3 f4 f5⟩
  self := fun _ _ _ _ _ st h => ki_self st h
section
variable {X : Cx} {tg : Expr}
def iDK (tl : TE) : TI := fun σ H R => tl σ H fun x H1 => ∃ a o kvs, x = .ref a ∧ H1 a = some (.frz o (.dK kvs)) ∧ R (ItdK a o) H1
theorem pi_dK {l : Expr} {tl : TE} (hl : PE X l tl) : PI X tg l (iDK tl) := by
  intro pins s σ H R I h
  refine thn (hl pins s σ H _ I h) fun v s1 ⟨x, H1, I1, r1, q1⟩ => ?_
  obtain ⟨a, o, kvs, e, hq, q⟩ := q1
  subst e
  cases r1
  obtain ⟨g1, g2, g3, es, ep, g4, g5, g6⟩ := fz_k I1.hok hq
  refine ki_iter g3 g1 g2 g4 fun h' st k => ?_
  refine ⟨s1.heap.objs.size, [s1.heap.objs.size], _, _, H1, rfl, I1.kept (t' := s1.toks) k, turn_dictK a _ o g4, st, fun b hb => ?_, q⟩
  cases List.mem_singleton.mp hb
  exact I1.fpOk (Nat.le_refl _) (I1.hok.fresh (Nat.le_refl _))
end
section
variable {a : Addr} {o : Obj} {g : TG} {tb : TS} {D : Ends} {σ : St} {H : Hp}
theorem for_dK {kvs : List (Key × V)} (Pv : Nat → St → Hp → Prop) (h0 : Pv 0 σ H) (hl : ∀ i σ H, i ≤ kvs.length → Pv i σ H → H a = some (.frz o (.dK kvs)))
    (hs : ∀ i kv σ H, kvs[i]? = some kv → Pv i σ H → g (kV kv.1) σ H fun σ2 H2 => tb { D with nx := Pv (i + 1), ct := Pv (i + 1), bk := D.nx } σ2 H2) (hd : ∀ σ H, Pv kvs.length σ H → D.nx σ H) :
    ∃ W : Nat → Nat → St → Hp → Prop, (∃ m, W 0 m σ H) ∧ ∀ i m σ H, W i m σ H →
      ((ItdK a o).stop i H ∧ D.nx σ H) ∨ ((ItdK a o).go i H ∧ ∃ N : St → Hp → Prop, (∀ σ' H', N σ' H' → ∃ m', m' < m ∧ W (i + 1) m' σ' H') ∧ ∀ x H', (ItdK a o).yld i H x H' → g x σ H' fun σ2 H2 => tb { D with nx := N, ct := N, bk := D.nx } σ2 H2) := by
  refine ⟨fun i m σ H => m = kvs.length - i ∧ i ≤ kvs.length ∧ Pv i σ H, ⟨kvs.length, by simp, Nat.zero_le _, h0⟩, ?_⟩
  rintro i m σ H ⟨rfl, hi, p⟩
  have q := hl i σ H hi p
  by_cases hlt : i < kvs.length
  · refine .inr ⟨⟨kvs, q, hlt⟩, Pv (i + 1), fun σ' H' p' => ⟨kvs.length - (i + 1), by omega, rfl, hlt, p'⟩, fun x H' y => ?_⟩
    obtain ⟨e, y⟩ := y
    subst e
    obtain ⟨kv, k1, rfl⟩ := y kvs q
    exact hs i kv σ _ k1 p
  · have e : i = kvs.length := by omega
    subst e
    exact .inl ⟨⟨kvs, q, Nat.le_refl _⟩, hd σ H p⟩
theorem r_idK {tl : TE} {R : It → Hp → Prop} (q : tl σ H fun x H1 => ∃ a o kvs, x = .ref a ∧ H1 a = some (.frz o (.dK kvs)) ∧ R (ItdK a o) H1) : iDK tl σ H R := q
end
inductive IsDc : HO → Prop
  | k (kvs : List (Key × V)) : IsDc (.dK kvs)
  | t (kvs : List (List Key × V)) : IsDc (.dT kvs)
theorem IsDc.obj {P : Program} {w : World} {H : Hp} {h : Heap} {a : Addr} {u : HO} (d : IsDc u) (ok : ObjOk P w H h a u) : ∃ o, h.get? a = some o := by
  cases d with
  | k kvs => obtain ⟨_, _, _, _, o, _, _, g, _⟩ := ok; exact ⟨o, g⟩
  | t kvs => obtain ⟨_, _, _, _, o, _, _, g, _⟩ := ok; exact ⟨o, g⟩
theorem Inv.frz {X : Cx} {pins : List (Addr × Obj)} {σ : St} {H : Hp} {s : Shared} {a : Addr} {u : HO} {o : Obj} (I : Inv X pins σ H s) (e : H a = some u) (d : IsDc u) (ho : s.heap.get? a = some o) : Inv X pins σ (upd H a (.frz o u)) s := by
  have ne : ∀ b v, H b = some v → v ≠ u → b ≠ a := fun b v h n z => by rw [z, e] at h; cases h; exact n rfl
  have keep : ∀ b v, H b = some v → v ≠ u → upd H a (.frz o u) b = some v := fun b v h n => by rw [upd_ne (ne b v h n)]; exact h
  refine I.un (h' := s.heap) (t' := s.toks) ⟨fun b o e n _ _ => e, fun b o e n _ _ => ⟨o.slots, e⟩, fun b o _ n _ => ?_, fun b o e _ => ⟨o, e⟩, fun b xs h => keep b _ h (by intro z; rw [← z] at d; cases d), fun b ob v h => keep b _ h (by intro z; rw [← z] at d; cases d), fun b qs h => ⟨#[], by rw [keep b _ h (by intro z; rw [← z] at d; cases d)]; simp⟩⟩ fun b v h => ?_
  · rw [upd_ne (fun z => by rw [z, e] at n; cases n)]
    exact n
  · have st : ∀ {v : HO}, ObjOk X.prog X.w H s.heap b v → ObjOk X.prog X.w (upd H a (.frz o u)) s.heap b v := fun x => x.stay (fun _ _ _ q => q) (fun c q => keep c _ q (by intro z; rw [← z] at d; cases d)) fun c xs q => keep c _ q (by intro z; rw [← z] at d; cases d)
    by_cases hb : b = a
    · subst hb
      rw [upd_same] at h
      cases h
      exact ⟨ho, st (I.hok b _ e)⟩
    · rw [upd_ne hb] at h
      exact st (I.hok b _ h)
def rFrz (x : V) (H : Hp) (Q : VK) : Prop := ∃ a u, x = .ref a ∧ H a = some u ∧ IsDc u ∧ ∀ o, Q x (upd H a (.frz o u))
def tFrz (t : TE) : TE := fun σ H Q => t σ H fun x H1 => rFrz x H1 Q
section
variable {X : Cx} {e : Expr} {t : TE}
theorem pe_frz (he : PE X e t) : PE X e (tFrz t) := by
  intro pins s σ H Q I h
  refine thn (he pins s σ H _ I h) fun v s1 ⟨x, H1, I1, r1, a, u, ex, hu, d, q⟩ => ?_
  subst ex
  obtain ⟨o, ho⟩ := d.obj (I1.hok a _ hu)
  exact ⟨.ref a, _, I1.frz hu d ho, r1, q o⟩
end
section
variable {K : PySem.W.Frag} {σ : St} {H : Hp} {Q : VK} {td ty tv t : TE} {p b : Addr}
theorem r_frz (q : t σ H fun x H1 => rFrz x H1 Q) : tFrz t σ H Q := q
theorem r_frzK {kvs : List (Key × V)} (h : H p = some (.dK kvs)) (q : ∀ o H', H' p = some (.frz o (.dK kvs)) → But p H H' → Q (.ref p) H') : rFrz (.ref p) H Q := ⟨p, _, rfl, h, .k _, fun o => q o _ upd_same but_upd⟩
theorem r_dgetI {kvs : List (Key × V)} {k : Int} {v : V} (h : Rd H p (.dK kvs)) (e : valV kvs (Sum.inl k) = some v) (q : Q v H) : rDGet (.ref p) (.int k) H Q := ⟨p, v, rfl, .inl ⟨kvs, Sum.inl k, h, rfl, e.symm⟩, q⟩
theorem r_dputI {kvs : List (Key × V)} {k : Int} {v : V} {R : Hp → Prop} (h : H p = some (.dK kvs)) (hl : kvs.length < 1000000) (q : ∀ H', H' p = some (.dK (putK kvs (Sum.inl k) v)) → But p H H' → R H') : rDPut (.ref p) (.int k) v H R :=
  ⟨p, _, rfl, DPut.k (k := Sum.inl k) h (by rw [sizeLine_eq]; omega), q _ upd_same but_upd⟩
def rNinK : R2 := fun x y H Q => ∃ a o, y = .ref a ∧ DGet H a x o ∧ Q (.bl (!o.isSome)) H
theorem r_ninKI {kvs : List (Key × V)} {k : Int} (h : Rd H p (.dK kvs)) (q : Q (.bl (!(valV kvs (Sum.inl k)).isSome)) H) : rNinK (.int k) (.ref p) H Q := ⟨p, _, rfl, .inl ⟨kvs, Sum.inl k, h, rfl, rfl⟩, q⟩
def rLenK : List V → Hp → VK → Prop := fun xs H Q => ∃ a kvs, xs = [V.ref a] ∧ H a = some (.dK kvs) ∧ Q (.int kvs.length) H
theorem r_lenK {kvs : List (Key × V)} (h : H p = some (.dK kvs)) (q : Q (.int kvs.length) H) : rLenK [.ref p] H Q := ⟨p, kvs, rfl, h, q⟩
def rDispI (p : Addr) (x v : V) (H : Hp) (Q : VK) : Prop := H p = some (.dK []) ∧ ∃ kvs : List (Key × V), [(x, v)] = kvs.map (fun kv => (kV kv.1, kv.2)) ∧ kvs.length ≤ 15 ∧ Q (.ref p) (upd H p (.dK (mergeK [] kvs)))
theorem r_dispV {tk tv : TE} (q : ∀ p H', H p = none → H' p = some (.dK []) → Ext H H' → tk σ H' fun x H2 => tv σ H2 fun v H3 => rDispI p x v H3 Q) : tDisp [(tk, tv)] σ H Q := fun p n => q p _ n upd_same (ext_upd n)
theorem r_dispI {i : Int} {v : V} (h : H p = some (.dK [])) (q : ∀ H', H' p = some (.dK [(Sum.inl i, v)]) → But p H H' → Q (.ref p) H') : rDispI p (.int i) v H Q := ⟨h, [(.inl i, v)], rfl, by show 1 ≤ 15; decide, q _ upd_same but_upd⟩
end
section
variable {X : Cx}
theorem op_ninK {k : Nat} (hr : Room k X.A) : OpR X (compareOp .NotIn) rNinK := by
  skip; intro pins s σ H x y v u Q I rx ry h
  obtain ⟨a, o, rfl, g, q⟩ := h
  cases ry
  exact d_notIn (by have := hr.un; omega) I g rx fun s' I' => ⟨.bl _, H, I', rfl, q⟩
theorem cLenK : CallR X (.builtin "len") rLenK := call_lenD
end
def Itv (a : Addr) (n : Nat) : It :=
  ⟨fun i H => i < n ∧ ∃ xs, H a = some (.lst xs) ∧ xs.length = n, fun i H x H' => H' = H ∧ ∀ xs, H a = some (.lst xs) → xs[n - 1 - i]? = some x, fun i _ => n ≤ i⟩
theorem turn_rev {P : Program} {w : World} {K : PySem.W.Frag} {tg : Expr} (a it : Addr) (n : Nat) : Turn P w K tg (Itv a n) [it] it (fun i h => i ≤ n ∧ h.IsRevIter it a ((n : Int) - 1 - (i : Int))) where
  mem := List.mem_singleton.mpr rfl
  obj := fun i h st b hb => by
    cases List.mem_singleton.mp hb
    obtain ⟨_, u, e, _, d⟩ := st
    exact ⟨u, e, fun v z => by rw [d] at z; cases z⟩
  keep := fun i h h' st k => ⟨st.1, let ⟨u, e, r⟩ := st.2; ⟨u, k it (List.mem_singleton.mpr rfl) u e, r⟩⟩
  item := by
    intro X hP hw hK hc i pins s σ H E I hf st hg
    subst hP hw hK
    obtain ⟨hi, xs, hq, hx⟩ := hg
    obtain ⟨its, rv, p, hz⟩ := I.list (SqL.of hq)
    have hl := rv.length
    obtain ⟨f0, f1, f2, f3, f4, f5⟩ := hf it (List.mem_singleton.mpr rfl)
    have hv : xs[n - 1 - i]? = some (xs[n - 1 - i]'(by omega)) := List.getElem?_eq_getElem (by omega)
    obtain ⟨u, hu, ru⟩ := rv.get hv
    have e1 : (n : Int) - 1 - (i : Int) = ((n - 1 - i : Nat) : Int) := by omega
    have st2 := st.2
    rw [e1] at st2
    refine wpAny_pyNext_rev_item st2 p.isList (x := u) (by simpa using hu) fun h' st' sb => ?_
    have e2 : ((n - 1 - i : Nat) : Int) - 1 = (n : Int) - 1 - ((i + 1 : Nat) : Int) := by omega
    rw [e2] at st'
    have I1 : Inv X pins σ H { s with heap := h' } := I.turned (t' := s.toks) (fun b o hb e => (sb.2 b hb).trans e) f0 f1 f3 f4 f5
    obtain ⟨o, e, c, d⟩ := id st'
    exact ⟨u, rfl, go_of (s := { s with heap := h' }) e c d (by decide) ⟨_, H, I1, ru, ⟨rfl, fun ys hy => by rw [hq] at hy; cases hy; exact hv⟩, ⟨hi, st'⟩, fun b hb => (hf b hb).1⟩⟩
  done := by
    intro X hP hw hK hc i pins s σ H E I hf st hg
    subst hP hw hK
    have hi : n ≤ i := hg
    obtain ⟨f0, f1, f2, f3, f4, f5⟩ := hf it (List.mem_singleton.mpr rfl)
    have e1 : (n : Int) - 1 - (i : Int) = -1 := by have := st.1; omega
    have st2 := st.2
    rw [e1] at st2
    exact wpAny_pyNext_rev_end (I.ok.hd hc) st2 fun h' eb => ⟨rfl, I.turned (t' := s.toks) (fun b o hb e => eb b o hb e) f0 f1 f3 f4 f5⟩
  self := fun _ _ _ _ _ st h => wpAny_pyIter_revIter st.2 h
section
variable {X : Cx} {tg : Expr}
def iRev (ta : TA) : TI := fun σ H R => ta σ H fun vs H1 => ∃ a xs, vs = [.ref a] ∧ H1 a = some (.lst xs) ∧ R (Itv a xs.length) H1
theorem pi_rev {a : Expr} {ta : TA} {p pos : Pos} (hg : Gl X "reversed") (hm : X.mg "reversed" = none) (ha : PA X [a] ta) (hs : starEach [a] X.env = [(false, eval a X.env)] := by rfl) : PI X tg (.Call (.Name "reversed" p) [a] [] pos) (iRev ta) := by
  intro pins s σ H R I h
  refine Call_ (ld_blt I hg hm boot_reversed (PyProof.Rows.callWith_type1 (thn (ha pos pins s σ H _ I h) fun us s1 ⟨vs, H1, I1, r1, q1⟩ => ?_) hs rfl))
  obtain ⟨p1, xs, e, hx, q⟩ := q1
  subst e
  obtain ⟨u, rfl, ru⟩ := vals1 r1
  cases ru
  obtain ⟨its, rv, pl, hz⟩ := I1.list (SqL.of hx)
  have hl := rv.length
  refine call_reversed_list pl.isList ?_
  have st : (s1.heap.push (revObj p1 ((its.toArray.size : Int) - 1))).IsRevIter s1.heap.objs.size p1 ((xs.length : Int) - 1 - ((0 : Nat) : Int)) := ⟨_, Heap.get?_push_size _ rfl, rfl, by rw [show (xs.length : Int) - 1 - ((0 : Nat) : Int) = (its.toArray.size : Int) - 1 by simp; omega]; rfl⟩
  have I2 : Inv X pins σ H1 { s1 with heap := s1.heap.push (revObj p1 ((its.toArray.size : Int) - 1)) } := I1.kept (t' := s1.toks) fun b o e => Heap.get?_push_of_some _ e
  refine wpAny_pyIter_revIter (s := { s1 with heap := s1.heap.push (revObj p1 ((its.toArray.size : Int) - 1)) }) st ⟨s1.heap.objs.size, [s1.heap.objs.size], _, _, H1, rfl, I2, turn_rev p1 _ xs.length, ⟨Nat.zero_le _, st⟩, fun b hb => ?_, q⟩
  cases List.mem_singleton.mp hb
  exact I1.fpOk (Nat.le_refl _) (I1.hok.fresh (Nat.le_refl _))
end
section
variable {a : Addr} {g : TG} {tb : TS} {D : Ends} {σ : St} {H : Hp}
theorem for_rev {xs : List V} (Pv : Nat → St → Hp → Prop) (h0 : Pv 0 σ H) (hl : ∀ i σ H, i ≤ xs.length → Pv i σ H → H a = some (.lst xs))
    (hs : ∀ i x σ H, i < xs.length → xs[xs.length - 1 - i]? = some x → Pv i σ H → g x σ H fun σ2 H2 => tb { D with nx := Pv (i + 1), ct := Pv (i + 1), bk := D.nx } σ2 H2) (hd : ∀ σ H, Pv xs.length σ H → D.nx σ H) :
    ∃ W : Nat → Nat → St → Hp → Prop, (∃ m, W 0 m σ H) ∧ ∀ i m σ H, W i m σ H →
      ((Itv a xs.length).stop i H ∧ D.nx σ H) ∨ ((Itv a xs.length).go i H ∧ ∃ N : St → Hp → Prop, (∀ σ' H', N σ' H' → ∃ m', m' < m ∧ W (i + 1) m' σ' H') ∧ ∀ x H', (Itv a xs.length).yld i H x H' → g x σ H' fun σ2 H2 => tb { D with nx := N, ct := N, bk := D.nx } σ2 H2) := by
  refine ⟨fun i m σ H => m = xs.length - i ∧ i ≤ xs.length ∧ Pv i σ H, ⟨xs.length, by simp, Nat.zero_le _, h0⟩, ?_⟩
  rintro i m σ H ⟨rfl, hi, p⟩
  have q := hl i σ H hi p
  by_cases hlt : i < xs.length
  · refine .inr ⟨⟨hlt, xs, q, rfl⟩, Pv (i + 1), fun σ' H' p' => ⟨xs.length - (i + 1), by omega, rfl, hlt, p'⟩, fun x H' y => ?_⟩
    obtain ⟨e, y⟩ := y
    subst e
    exact hs i x σ _ hlt (y xs q) p
  · have e : i = xs.length := by omega
    subst e
    exact .inl ⟨Nat.le_refl _, hd σ H p⟩
theorem r_irev {ta : TA} {R : It → Hp → Prop} (q : ta σ H fun vs H1 => ∃ a xs, vs = [.ref a] ∧ H1 a = some (.lst xs) ∧ R (Itv a xs.length) H1) : iRev ta σ H R := q
end
theorem lri_nolen : typeLookup (.type "list_reverseiterator") "__len__" = pure none := by rw [typeLookup_type, builtinLookup_eq_fast]; kernel_rfl
theorem lri_hint : typeLookup (.type "list_reverseiterator") "__length_hint__" = pure (some (.builtin "list_reverseiterator.__length_hint__")) := by rw [typeLookup_type, builtinLookup_eq_fast]; kernel_rfl
section
variable {prog : Program} {w : World} {A : Around} {E : Value → Shared → Prop} {s : Shared}
theorem lri_init {I l S : Addr} {xs : Array Value} {R : Result → Shared → Prop} (hh : A.handled = none) (hd : s.heap.IsRevIter I l ((xs.size : Int) - 1)) (hl : s.heap.IsList l xs) (ne : l ≠ I) (nI : S ≠ I) (nl : S ≠ l) (hz : xs.size ≤ sizeLine) (hS : s.heap.get? S = some { cls := .type "list", data := .seq #[] })
    (hR : ∀ s' acc' c', Moved [S, I] (fun a b => b = a) s s' → s'.heap.get? S = some { cls := .type "list", dict := none, data := .seq acc' c', slots := #[] } → ItemsOf (fun i v => xs[xs.size - 1 - i]? = some v) acc' xs.size → R (.ok (.ret .none)) s') :
    wpAny (model prog w) A.in1 (Builtin.«list.__init__» ⟨[.ref S, .ref I], []⟩) (fun fin s' => match fin with | .done f => R (.ok f) s' | .again c' => c'.quiet = true ∧ codeAny (model prog w) A c' R s') (fun e s' => R (.error e) s') s := by
  have W := (Walks.listRev (prog := prog) (w := w) (A := A.in1) hh I l ne xs).toS
  have nS : S ∉ [I, l] := by
    simp only [List.mem_cons, List.mem_nil_iff, or_false, not_or]
    exact ⟨nI, nl⟩
  have same : Builtin.List.listSameRef (.ref S) (.ref I) = false := by simp [Builtin.List.listSameRef, nI]
  show wpAny _ A.in1 (do let old ← Builtin.List.listItems (.ref S); Builtin.List.listUpdate (.ref S) (fun _ => #[]); letGo old.toList.reverse; Builtin.List.listExtendWith (.ref S) (.ref I) .none) _ _ s; refine wpAny_bind ?_
  unfold Builtin.List.listItems; refine wpAny_bind (wpAny_seqItems hS rfl (wpAny_pure ?_))
  show wpAny _ A.in1 (updateSeq S (fun _ => #[]) >>= fun _ => letGo (#[] : Array Value).toList.reverse >>= fun _ => Builtin.List.listExtendWith (.ref S) (.ref I) .none) _ _ s; refine wpAny_bind (wpAny_updateSeq hS rfl ?_)
  have S2 := Heap.get?_update_self (Obj.mapSeq (fun _ => (#[] : Array Value))) hS rfl
  have oth : ∀ b o, b ≠ S → s.heap.get? b = some o → (s.heap.update S (Obj.mapSeq (fun _ => (#[] : Array Value)))).get? b = some o := fun b o hb e => (Heap.get?_update_other _ _ (Ne.symm hb)).trans e
  refine wpAny_bind (wpAny_letGo ?_)
  have d2 : (s.heap.update S (Obj.mapSeq (fun _ => (#[] : Array Value)))).IsRevIter I l ((xs.size : Int) - 1) := hd.at fun o e => oth I o (Ne.symm nI) e
  have l2 : (s.heap.update S (Obj.mapSeq (fun _ => (#[] : Array Value)))).IsList l xs := hl.at fun o e => oth l o (Ne.symm nl) e
  have ty : Shared.TypeIs { s with heap := s.heap.update S (Obj.mapSeq (fun _ => (#[] : Array Value))) } (.ref I) "list_reverseiterator" := d2.typeIs (s := { s with heap := s.heap.update S (Obj.mapSeq (fun _ => (#[] : Array Value))) })
  unfold Builtin.List.listExtendWith; refine wpAny_bind (wpAny_typeOf ty ?_)
  rw [if_neg (by rw [same]; decide)]
  refine wpAny_bind (wpAny_pyIter_revIter (s := { s with heap := s.heap.update S (Obj.mapSeq (fun _ => (#[] : Array Value))) }) d2 (wpAny_bind (wpAny_holding ?_)))
  unfold Builtin.List.listLengthHint; refine wpAny_bind (wpAny_specialOf ty lri_nolen ?_)
  show wpAny _ A.in1 (specialOf (Value.ref I) (Str.ofString "__length_hint__") >>= _) _ _ _; refine wpAny_bind (wpAny_specialOf ty lri_hint ?_)
  (generalize hid : ("list_reverseiterator.__length_hint__" : String) = id0; (fail_if_success (clear hid id0)); wp_delta; rw [show splitId id0 = some ("list_reverseiterator", "__length_hint__") from by subst hid; decide +kernel]; subst hid)
  refine wpAny_bind (wpAny_isInstance (b := true) ty (by rw [isSubtype_type]; kernel_rfl) ?_)
  refine wpAny_pure ?_; rw [if_neg (by decide)]
  refine wpAny_pure ⟨plainId_quiet F.plain_extend_loop _, codeAny_extend_loopS W hz _ nS _ xs.size 0 _ _ _ rfl (Nat.zero_le _) ⟨Nat.zero_le _, ?_, l2⟩ S2 (ItemsOf.nil _) fun s' acc' c' hm hS' hacc => hR s' acc' c' ⟨fun b o hb e => ?_, hm.gens, hm.drawn, hm.os, hm.toks⟩ hS' hacc⟩
  · rw [show (xs.size : Int) - 1 - ((0 : Nat) : Int) = (xs.size : Int) - 1 by omega]
    exact d2
  · have nb : b ≠ S := fun z => hb (by rw [z]; exact List.mem_cons_self)
    exact hm.heap b o hb (oth b o nb e)
theorem call_listRev {I l : Addr} {xs : Array Value} {Q : Value → Shared → Prop} (hh : A.handled = none) (hd : s.heap.IsRevIter I l ((xs.size : Int) - 1)) (hl : s.heap.IsList l xs) (ne : l ≠ I) (hz : xs.size ≤ sizeLine)
    (hQ : ∀ s' acc' c', Moved [s.heap.objs.size, I] (fun a b => b = a) { s with heap := s.heap.push { cls := .type "list", data := .seq #[] } } s' → s'.heap.get? s.heap.objs.size = some { cls := .type "list", dict := none, data := .seq acc' c', slots := #[] } → ItemsOf (fun i v => xs[xs.size - 1 - i]? = some v) acc' xs.size → Q (.ref s.heap.objs.size) s') : wpAny (model prog w) A (call (.type "list") [.ref I]) Q E s := by
  have lI : I < s.heap.objs.size := by obtain ⟨o, e, _⟩ := hd; exact Heap.lt_size e
  have ll : l < s.heap.objs.size := by obtain ⟨o, e, _⟩ := hl; exact Heap.lt_size e
  refine callType_codes (Q₁ := fun obj s₁ => obj = .ref s.heap.objs.size ∧ s₁ = { s with heap := s.heap.push { cls := .type "list", data := .seq #[] } }) F.called_list (F.typeCall_list_1 _) F.entry_list_init (code_list_new _ ⟨rfl, rfl⟩) fun obj s₁ h₁ => ?_
  obtain ⟨rfl, rfl⟩ := h₁
  skip; have hS : (s.heap.push { cls := .type "list", data := .seq #[] }).get? s.heap.objs.size = some { cls := .type "list", data := .seq #[] } := Heap.get?_push_size _ rfl
  refine ⟨⟨_, hS, rfl⟩, F.args_list_init_2 _ _, lri_init (s := { s with heap := s.heap.push { cls := .type "list", data := .seq #[] } }) hh (hd.at fun o e => Heap.get?_push_of_some _ e) (hl.at fun o e => Heap.get?_push_of_some _ e) ne (Nat.ne_of_gt lI) (Nat.ne_of_gt ll) hz hS fun s' acc' c' hm hS' hacc => ?_⟩
  skip; exact ⟨rfl, hQ s' acc' c' hm hS' hacc⟩
end
section
variable {X : Cx}
def rListRev : List V → Hp → VK → Prop := fun xs H Q => ∃ p ys, xs = [.ref p] ∧ H p = some (.lst ys) ∧ ∀ l, H l = none → Q (.ref l) (upd H l (.lst ys.reverse))
theorem pe_listRev {a : Expr} {ta : TA} {p p' pos pos' : Pos} (hc : X.calm = true) (hg : Gl X "list") (hm : X.mg "list" = none) (hg2 : Gl X "reversed") (hm2 : X.mg "reversed" = none) (ha : PA X [a] ta) (hs : starEach [a] X.env = [(false, eval a X.env)] := by rfl)
    (ht : starEach [.Call (.Name "reversed" p') [a] [] pos'] X.env = [(false, eval (.Call (.Name "reversed" p') [a] [] pos') X.env)] := by rfl) :
    PE X (.Call (.Name "list" p) [.Call (.Name "reversed" p') [a] [] pos'] [] pos) (tCB rListRev ta) := by
  skip; intro pins s σ H Q I h
  refine wpAny_Call_Name_kw (ld_blt I hg hm PyProof.Rows.boot_list (PyProof.Rows.callWith_type1 ?_ ht rfl) (by decide) (by decide)); rw [ht]
  show wpAny _ _ (spliced ((false, eval (.Call (.Name "reversed" p') [a] [] pos') X.env) :: backTo pos [])) _ _ s
  refine Calls.spliced_cons (wpAny_Call_Name_kw (ld_blt I hg2 hm2 boot_reversed (PyProof.Rows.callWith_type1 (thn (ha pos' pins s σ H _ I h) fun us s1 ⟨vs, H1, I1, r1, q1⟩ => ?_) hs rfl) (by decide) (by decide)))
  obtain ⟨p1, ys, e, hx, q⟩ := q1
  subst e
  obtain ⟨u, rfl, ru⟩ := vals1 r1
  cases ru
  obtain ⟨its, ri, pl, hz⟩ := I1.list (SqL.of hx)
  have hl := ri.length
  have z1 : its.toArray.size ≤ sizeLine := by rw [List.size_toArray]; omega
  refine call_reversed_list pl.isList (Calls.spliced_nil ?_)
  have lp : p1 < s1.heap.objs.size := by obtain ⟨o, ho, _⟩ := pl.isList; exact Heap.lt_size ho
  refine call_listRev (s := { s1 with heap := s1.heap.push (revObj p1 ((its.toArray.size : Int) - 1)) }) (I1.ok.hd hc) ⟨_, Heap.get?_push_size _ rfl, rfl, rfl⟩ (pl.isList.at fun o e => Heap.get?_push_of_some _ e) (Nat.ne_of_lt lp) z1 fun s' acc c hm hS hacc => ?_
  have e := rv_items hacc
  have n1 : H1 s1.heap.objs.size = none := I1.hok.fresh (Nat.le_refl _)
  obtain ⟨h', g', d', t', o'⟩ := s'
  have e1 : g' = s1.gens := hm.gens
  have e2 : d' = s1.drawn := hm.drawn
  have e3 : o' = s1.os := hm.os
  subst e1 e2 e3
  have sz : (s1.heap.push (revObj p1 ((its.toArray.size : Int) - 1))).objs.size = s1.heap.objs.size + 1 := Heap.size_push ..
  have kk : ∀ b o, s1.heap.get? b = some o → h'.get? b = some o := fun b o e => by
    have lb := Heap.lt_size e
    refine hm.heap b o (fun z => ?_) (Heap.get?_push_of_some _ (Heap.get?_push_of_some _ e))
    rcases List.mem_cons.mp z with z | z
    · exact Nat.ne_of_lt (Nat.lt_succ_of_lt lb) (by rw [sz] at z; exact z)
    · exact Nat.ne_of_lt lb (List.mem_singleton.mp z)
  have hS' : h'.get? (s1.heap.objs.size + 1) = some { cls := .type "list", dict := none, data := .seq acc c, slots := #[] } := by rw [← sz]; exact hS
  have I3 : Inv X pins σ (upd H1 (s1.heap.objs.size + 1) (.lst ys.reverse)) { s1 with heap := h', toks := t' } :=
    I1.laid (t' := t') kk (Nat.le_succ _) (show ObjOk X.prog X.w _ _ _ (.lst ys.reverse) from ⟨by rw [List.length_reverse]; exact hz, its.reverse, c, Vals.reverse ri, by rw [hS', ← e]⟩)
  refine ⟨.ref (s1.heap.objs.size + 1), _, I3, by rw [sz]; rfl, q _ (I1.hok.fresh (Nat.le_succ _))⟩
end
section
variable {H : Hp} {Q : VK}
theorem r_listRev {p : Addr} {xs : List V} (h : H p = some (.lst xs)) (q : ∀ l H', H l = none → H' l = some (.lst xs.reverse) → Ext H H' → Q (.ref l) H') : rListRev [.ref p] H Q := ⟨p, xs, rfl, h, fun l n => q l _ n upd_same (ext_upd n)⟩
end
theorem xd_sub : isSubtype (.type "dict") (.type "dict") = pure true := by rw [isSubtype_type]; kernel_rfl
theorem kd_walks {prog : Program} {w : World} {A : Around} (hh : A.handled = none) (I d : Addr) (nd : d ≠ I) {o : Obj} {es : Array DictEntry} {ep : Nat} (hc : o.ExactDict) (hd : o.data = .dict es ep) :
    Walks prog w A I [I, d] [I] es.size (fun i v => (es[i]?).map (·.key) = some v) (fun i h => h.IsKeyIter I d i es.size ep ∧ h.get? d = some o) where
  sub := fun b hb => by rw [List.mem_singleton.mp hb]; simp
  frame := fun _ _ _ x hk => ⟨let ⟨u, e, r⟩ := x.1; ⟨u, hk I (by simp) u e, r⟩, hk d (by simp) _ x.2⟩
  item := fun i s Q E hi x (hQ) => by
    refine ki_item x.1 x.2 hc hd hi fun h' st' sb => ?_
    refine hQ _ h' s.toks ?_ ⟨st', (sb.2 d nd).trans x.2⟩ fun b u hb eu => sb.extBut b u (fun h => hb (by simp [h])) eu
    rw [Array.getElem?_eq_getElem hi]
    rfl
  done := fun s Q E x hQ => ki_end hh x.1 x.2 hc hd (Nat.le_refl _) fun h' he' => hQ h' s.toks fun b u hb eu => he' b u (fun h => hb (by simp [h])) eu
  self := fun _ _ _ _ x hQ => ki_self x.1 hQ
section
variable {prog : Program} {w : World} {A : Around} {E : Value → Shared → Prop} {s : Shared}
theorem kd_collect {d : Addr} {o : Obj} {es : Array DictEntry} {ep : Nat} {Q : List Value → Shared → Prop} (hh : A.handled = none) (lo : (d == sysModules) = false) (hS : s.heap.get? d = some o) (hc : o.ExactDict) (hd : o.data = .dict es ep) (hz : es.size ≤ sizeLine)
    (hQ : ∀ s' acc, Moved [] (fun a b => b = a) s s' → s.heap.objs.size < s'.heap.objs.size → ItemsOf (fun i v => (es[i]?).map (·.key) = some v) acc es.size → Q acc.toList s') : wpAny (model prog w) A (collect (.ref d)) Q E s := by
  have lS : d < s.heap.objs.size := Heap.lt_size hS
  have nd : s.heap.objs.size ≠ d := Nat.ne_of_gt lS
  unfold collect; refine wpAny_bind (wpAny_runValue (codeAny_builtin F.entry_proto_collect ?_)); rw [Around.under_plainId F.plain_proto_collect _]
  show wpAny _ A.in1 (newList [] >>= fun x => again (.builtin "list.__iadd__" ⟨[x, .ref d], []⟩)) _ _ s
  refine wpAny_bind (wpAny_newObj_type (wpAny_pure ⟨plainId_quiet F.plain_list_iadd _, codeAny_builtin F.entry_list_iadd ?_⟩)); rw [Around.under_plainId F.plain_list_iadd _]
  have d1 : (s.heap.push { cls := .type "list", data := .seq ([] : List Value).toArray }).get? d = some o := Heap.get?_push_of_some _ hS
  have S1 : (s.heap.push { cls := .type "list", data := .seq ([] : List Value).toArray }).get? s.heap.objs.size = some { cls := .type "list", data := .seq ([] : List Value).toArray } := Heap.get?_push_size _ rfl
  have same : Builtin.List.listSameRef (.ref s.heap.objs.size) (.ref d) = false := by simp [Builtin.List.listSameRef, nd]
  show wpAny _ A.in1 (Builtin.List.listExtendWith (.ref s.heap.objs.size) (.ref d) (.ref s.heap.objs.size)) _ _ _; unfold Builtin.List.listExtendWith
  refine wpAny_bind (wpAny_typeOf (T := "dict") ⟨_, d1, hc.1⟩ ?_)
  rw [if_neg (by rw [same]; decide)]
  refine wpAny_bind (ki_iter lo d1 hc hd fun h2 st2 k2 => wpAny_bind (wpAny_holding ?_))
  have n1 : (s.heap.push { cls := .type "list", data := .seq ([] : List Value).toArray }).objs.size = s.heap.objs.size + 1 := by rw [Heap.size_push]
  rw [show ({ s with heap := s.heap.push { cls := .type "list", data := .seq ([] : List Value).toArray } } : Shared).heap.objs.size = s.heap.objs.size + 1 from n1] at st2
  rw [n1]
  have d2 := k2 _ _ d1
  have S2 := k2 _ _ S1
  have te : Shared.TypeIs { s with heap := h2 } (.ref d) "dict" := ⟨_, d2, hc.1⟩
  unfold Builtin.List.listLengthHint; refine wpAny_bind (wpAny_specialOf (T := "dict") te PySem.F.slot_dict_len.lookup ?_)
  (generalize hid : ("dict.__len__" : String) = id0; (fail_if_success (clear hid id0)); wp_delta; rw [show splitId id0 = some ("dict", "__len__") from by subst hid; decide +kernel]; subst hid)
  refine wpAny_bind (wpAny_isInstance (T := "dict") (b := true) te xd_sub ?_)
  rw [if_neg (by decide)]; rw [if_pos (by decide +kernel)]
  refine wpAny_bind (wpAny_typeOf (T := "dict") te (wpAny_pure ?_))
  rw [if_pos (by decide +kernel)]
  refine wpAny_bind (wpAny_rule (wpAny_bind ?_))
  have S3 := Heap.get?_update_self (Obj.mapSeq (·.push Value.none)) S2 rfl
  show wpAny _ A.in1 (updateSeq s.heap.objs.size (·.push .none) >>= fun _ => updateSeq s.heap.objs.size (·.pop)) _ _ _; refine wpAny_bind (wpAny_updateSeq S2 rfl (wpAny_updateSeq S3 rfl ?_))
  have S4 := Heap.get?_update_self (Obj.mapSeq (·.pop)) S3 rfl
  have oth : ∀ b u, b ≠ s.heap.objs.size → h2.get? b = some u → ((h2.update s.heap.objs.size (Obj.mapSeq (·.push Value.none))).update s.heap.objs.size (Obj.mapSeq (·.pop))).get? b = some u :=
    fun b u nb e => (Heap.get?_update_other _ _ (Ne.symm nb)).trans ((Heap.get?_update_other _ _ (Ne.symm nb)).trans e)
  have neI : d ≠ s.heap.objs.size + 1 := Nat.ne_of_lt (Nat.lt_succ_of_lt lS)
  have W := (kd_walks (prog := prog) (w := w) (A := A.in1) hh (s.heap.objs.size + 1) d neI hc hd).toS
  have nS : s.heap.objs.size ∉ [s.heap.objs.size + 1, d] := by
    simp only [List.mem_cons, List.mem_nil_iff, or_false, not_or]
    exact ⟨Nat.ne_of_lt (Nat.lt_succ_self _), nd⟩
  refine wpAny_pure ⟨plainId_quiet F.plain_extend_loop _, codeAny_extend_loopS W hz _ nS _ es.size 0 _ _ _ rfl (Nat.zero_le _) ⟨?_, oth d _ nd.symm d2⟩ S4 (ItemsOf.nil _) fun s' acc' c' hm hS' hacc => wpAny_bind (wpAny_load hS' (wpAny_pure (hQ s' acc' ⟨fun b u _ e => ?_, hm.gens, hm.drawn, hm.os, hm.toks⟩ (Heap.lt_size hS') hacc)))⟩
  · obtain ⟨u, e, r⟩ := st2
    exact ⟨u, oth _ _ (Nat.ne_of_gt (Nat.lt_succ_self _)) e, r⟩
  · have lb := Heap.lt_size e
    refine hm.heap b u (fun q => ?_) (oth b u (Nat.ne_of_lt lb) (k2 _ _ (Heap.get?_push_of_some _ e)))
    skip; rcases List.mem_cons.mp q with q | q
    · exact Nat.ne_of_lt lb q
    · exact Nat.ne_of_lt (Nat.lt_succ_of_lt lb) (List.mem_singleton.mp q)
theorem kd_keys {es : Array DictEntry} {acc : Array Value} (h : ItemsOf (fun i v => (es[i]?).map (·.key) = some v) acc es.size) : acc.toList = es.toList.map (·.key) := by
  refine items_list (P := fun i v => (es[i]?).map (·.key) = some v) (by rw [List.length_map, Array.length_toList]; exact h) fun i v hv => ?_
  rw [List.getElem?_map, Array.getElem?_toList]
  exact hv
theorem kd_sorted {d : Addr} {o : Obj} {es : Array DictEntry} {ep : Nat} {ns : List Int} {Q : Value → Shared → Prop} (hh : A.handled = none) (lo : (d == sysModules) = false) (hS : s.heap.get? d = some o) (hc : o.ExactDict) (hd : o.data = .dict es ep) (h64 : es.size < 64) (hI : IntsAre (es.toList.map (·.key)) ns)
    (h : ∀ (s' : Shared) (h' : Heap) (a : Addr) (out : List Value) (e : Nat) (ns' : List Int), (∀ b o, s.heap.get? b = some o → h'.get? b = some o) → s.heap.objs.size ≤ a → h'.get? a = some (seqObj "list" out.toArray e) → IntsAre out ns' → ns'.Perm ns → ns'.Pairwise (· ≤ ·) → Q (.ref a) { s with heap := h', toks := s'.toks }) : wpAny (model prog w) A (call (.builtin "sorted") [.ref d]) Q E s := by
  have hz : es.size ≤ sizeLine := by rw [sizeLine_eq]; omega
  refine Calls.call_function_entry kind_sorted plain_sorted entry_sorted (args_sorted1 _) ?_; unfold Builtin.«sorted»
  refine wpAny_bind (m := checkCount "sorted" 1 1 _) (wpAny_pure (wpAny_bind (kd_collect hh lo hS hc hd hz fun s' acc hm le ha => ?_)))
  have i1 : IntsAre acc.toList ns := by rw [kd_keys ha]; exact hI
  have l1 : acc.toList.length < 64 := by rw [kd_keys ha, List.length_map, Array.length_toList]; exact h64
  skip; refine wpAny_bind (wpAny_newList ?_ (by rw [sizeLine_eq]; omega))
  have o1 : (s'.heap.push (seqObj "list" acc.toList.toArray 0)).get? s'.heap.objs.size = some (seqObj "list" acc.toList.toArray 0) := Heap.get?_push_size _ rfl
  refine wpAny_bind (wpAny_holding (wpAny_call_entry slot_list_sort ⟨_, o1, rfl⟩ entry_list_sort (list_sort_tree o1 i1 l1 fun out ns' a1 a2 a3 => ⟨_, rfl, wpAny_pure ⟨_, rfl, ?_⟩⟩) (args_list_sort _)))
  obtain ⟨h', g', d', t', q'⟩ := s'
  skip; have eg : g' = s.gens := hm.gens
  skip; have ed : d' = s.drawn := hm.drawn
  have eo : q' = s.os := hm.os
  subst eg ed eo
  obtain ⟨e, he⟩ := sortedHeap_at (out := out) o1
  refine h ⟨h', s.gens, s.drawn, t', s.os⟩ _ _ out.toList e ns' (fun b o eb => ?_) (Nat.le_of_lt le) (by simpa using he) a1 a2 a3
  have hb := hm.heap b o (by simp) eb
  have lb := Heap.lt_size hb
  refine (sortedHeap_old (Nat.ne_of_lt lb) ?_).trans (Heap.get?_push_of_some _ hb)
  rw [Heap.size_push]
  exact Nat.lt_succ_of_lt lb
end
theorem vals_keys {ns : List Int} {vs : List Value} (h : ∀ (i : Nat) (n : Int), ns[i]? = some n → ∃ u, vs[i]? = some u ∧ RelV (.int n) u) (hl : ns.length = vs.length) : IntsAre vs ns := by
  induction ns generalizing vs with
  | nil => cases vs with
    | nil => exact .nil
    | cons x r => simp at hl
  | cons n r ih =>
    cases vs with
    | nil => simp at hl
    | cons x q =>
      obtain ⟨u, e, t, ht⟩ := h 0 n rfl
      simp at e
      subst e ht
      exact .cons n t (ih (fun i m hm => by simpa using h (i + 1) m (by simpa using hm)) (by simpa using hl))
section
variable {X : Cx}
def rSortDK : List V → Hp → VK → Prop := fun xs H Q => ∃ (p : Addr) (o : Obj) (kvs : List (Key × V)) (ns : List Int), xs = [.ref p] ∧ H p = some (.frz o (.dK kvs)) ∧ kvs.map (·.1) = ns.map Sum.inl ∧ kvs.length < 64 ∧ ∀ l (ms : List Int), H l = none → ms.Perm ns → ms.Pairwise (· ≤ ·) → Q (.ref l) (upd H l (.lst (ms.map V.int)))
theorem cSortDK (hc : X.calm = true) : CallR X (.builtin "sorted") rSortDK := by
  skip; intro pins s σ H xs us Q I r h
  obtain ⟨p, o, kvs, ns, rfl, hp, hk, h64, q⟩ := h
  obtain ⟨u, rfl, ru⟩ := vals1 r
  cases ru
  obtain ⟨g1, g2, g3, es, ep, g4, g5, g6⟩ := fz_k I.hok hp
  have hl : kvs.length = ns.length := by have := congrArg List.length hk; simpa using this
  have hI : IntsAre (es.toList.map (·.key)) ns := vals_keys (fun i n hn => by
    have hi : i < ns.length := (List.getElem?_eq_some_iff.mp hn).1
    have hi2 : i < es.size := by omega
    obtain ⟨kv, k1, k2⟩ := g6 i hi2
    have e : (kvs.map (·.1))[i]? = some (Sum.inl n) := by rw [hk, List.getElem?_map, hn]; rfl
    rw [List.getElem?_map, k1] at e
    have e' : kv.1 = Sum.inl n := Option.some.inj e
    rw [e'] at k2
    exact ⟨es[i].key, by rw [List.getElem?_map, Array.getElem?_toList, Array.getElem?_eq_getElem hi2]; rfl, k2⟩) (by have := Array.length_toList (xs := es); rw [List.length_map]; omega)
  refine kd_sorted (I.ok.hd hc) g3 g1 g2 g4 (by omega) hI fun s' h' l out ex ns' kk le ho hI' hp' hw => ?_
  have ln : ns'.length = ns.length := hp'.length_eq
  exact ⟨.ref l, upd H l (.lst (ns'.map V.int)), I.laid (t' := s'.toks) kk le (show ObjOk X.prog X.w _ _ _ (.lst (ns'.map V.int)) from ⟨by rw [List.length_map, sizeLine_eq]; omega, out, ex, vals_ints hI', ho⟩), rfl, q l ns' (I.hok.fresh le) hp' hw⟩
theorem r_sortDK {H : Hp} {Q : VK} {p : Addr} {o : Obj} {kvs : List (Key × V)} {ns : List Int} (h : H p = some (.frz o (.dK kvs))) (hk : kvs.map (·.1) = ns.map Sum.inl) (hn : kvs.length < 64) (q : ∀ l (ms : List Int) H', H l = none → ms.Perm ns → ms.Pairwise (· ≤ ·) → H' l = some (.lst (ms.map V.int)) → Ext H H' → Q (.ref l) H') : rSortDK [.ref p] H Q := ⟨p, o, kvs, ns, rfl, h, hk, hn, fun l ms nl pm pw => q l ms _ nl pm pw upd_same (ext_upd nl)⟩
end
def del (H : Hp) (d : Addr) : Hp := fun b => if b = d then none else H b
theorem del_same {H : Hp} {d : Addr} : del H d d = none := if_pos rfl
theorem del_ne {H : Hp} {d b : Addr} (h : b ≠ d) : del H d b = H b := if_neg h
abbrev czO (oc : Obj) (d : Addr) : HO := .frz oc (.own d)
section
variable {P : Program} {w : World} {H H' : Hp} {h h' : Heap} {d : Addr} {oc : Obj} {fs : List Addr}
theorem HOk.del (ok : HOk P w H h) (hd : H d = some (czO oc d)) : HOk P w (del H d) h := fun b u e => by
  have nb : b ≠ d := fun z => by rw [z, del_same] at e; cases e
  rw [del_ne nb] at e
  refine (ok b u e).stay (fun _ _ _ q => q) (fun c q => ?_) fun c xs q => ?_
  · rw [del_ne (fun z => by rw [z, hd] at q; cases q)]; exact q
  · rw [del_ne (fun z => by rw [z, hd] at q; cases q)]; exact q
theorem HOk.add (ok : HOk P w H h) (hd : H d = none) (g : h.get? d = some oc) : HOk P w (upd H d (czO oc d)) h := fun b u e => by
  by_cases nb : b = d
  · subst nb
    rw [upd_same] at e
    cases e
    exact ⟨g, oc, g⟩
  · rw [upd_ne nb] at e
    exact (ok b u e).stay (fun _ _ _ q => q) (fun c q => by rw [upd_ne (ne_of_none q hd)]; exact q) fun c xs q => by rw [upd_ne (ne_of_none q hd)]; exact q
theorem Un.unfreeze (u : Un fs [] (upd H d (czO oc d)) H' h h') (hd : H d = none) (g : h.get? d = some oc) (g' : h'.get? d = some oc) : Un fs [] H (L2.del H' d) h h' := by
  have up : ∀ {b : Addr}, H b = none → b ≠ d → upd H d (czO oc d) b = none := fun n nb => by rw [upd_ne nb]; exact n
  have us : ∀ {b : Addr} {v : HO}, H b = some v → upd H d (czO oc d) b = some v ∧ b ≠ d := fun q => by
    have nb := ne_of_none q hd
    exact ⟨by rw [upd_ne nb]; exact q, nb⟩
  refine ⟨fun b o q n hb hx => ?_, fun b o q n hb hx => ?_, fun b o q n hx => ?_, fun b o q hx => u.there b o q hx, fun b xs q => ?_, fun b o v q => ?_, fun b ps q => ?_⟩
  · by_cases nb : b = d
    · subst nb; rw [g] at q; cases q; exact g'
    · exact u.keep b o q (up n nb) hb hx
  · by_cases nb : b = d
    · subst nb; rw [g] at q; cases q; exact ⟨oc.slots, g'⟩
    · exact u.slot b o q (up n nb) hb hx
  · by_cases nb : b = d
    · rw [nb]; exact del_same
    · rw [del_ne nb]; exact u.free b o q (up n nb) hx
  · rw [del_ne (us q).2]; exact u.tups b xs (us q).1
  · rw [del_ne (us q).2]; exact u.frzs b o v (us q).1
  · obtain ⟨m, hm⟩ := u.tbls b ps (us q).1
    exact ⟨m, by rw [del_ne (us q).2]; exact hm⟩
theorem Un.refreeze (u : Un fs [] (L2.del H d) H' h h') (hd : H d = some (czO oc d)) (nf : d ∉ fs) (g : h.get? d = some oc) : h'.get? d = some oc ∧ H' d = none ∧ Un fs [] H (upd H' d (czO oc d)) h h' := by
  have g' := u.keep d oc g del_same nf (by simp)
  have n' := u.free d oc g del_same (by simp)
  have dn : ∀ {b : Addr}, H b = none → L2.del H d b = none ∧ b ≠ d := fun {b} n => by
    have nb : b ≠ d := fun z => by rw [z, hd] at n; cases n
    exact ⟨by rw [del_ne nb]; exact n, nb⟩
  refine ⟨g', n', fun b o q n hb hx => u.keep b o q (dn n).1 hb hx, fun b o q n hb hx => u.slot b o q (dn n).1 hb hx, fun b o q n hx => ?_, fun b o q hx => u.there b o q hx, fun b xs q => ?_, fun b o v q => ?_, fun b ps q => ?_⟩
  · rw [upd_ne (dn n).2]; exact u.free b o q (dn n).1 hx
  · have nb : b ≠ d := fun z => by rw [z, hd] at q; cases q
    rw [upd_ne nb]; exact u.tups b xs (by rw [del_ne nb]; exact q)
  · by_cases nb : b = d
    · subst nb; rw [hd] at q; cases q; exact upd_same
    · rw [upd_ne nb]; exact u.frzs b o v (by rw [del_ne nb]; exact q)
  · have nb : b ≠ d := fun z => by rw [z, hd] at q; cases q
    obtain ⟨m, hm⟩ := u.tbls b ps (by rw [del_ne nb]; exact q)
    exact ⟨m, by rw [upd_ne nb]; exact hm⟩
end
def CellH (H : Hp) (d : Addr) (v : V) : Prop := ∃ (oc : Obj) (u : Value), H d = some (czO oc d) ∧ oc.data = .cell (some u) ∧ RelV v u
theorem CellH.mono {H H' : Hp} {d : Addr} {v : V} (e : ExtT H H') (h : CellH H d v) : CellH H' d v := let ⟨oc, u, a, b⟩ := h; ⟨oc, u, e _ _ a rfl, b⟩
theorem CellH.but {H H' : Hp} {d r C dx : Addr} {fs : List (Str × V)} {v : V} (hr : H r = some (.ins C dx fs)) (e : But r H H') (h : CellH H d v) : CellH H' d v := let ⟨oc, u, a, b⟩ := h; ⟨oc, u, e _ _ (fun z => by rw [z, hr] at a; cases a) a, b⟩
theorem CellH.butL {H H' : Hp} {d r : Addr} {xs : List V} {v : V} (hr : H r = some (.lst xs)) (e : But r H H') (h : CellH H d v) : CellH H' d v := let ⟨oc, u, a, b⟩ := h; ⟨oc, u, e _ _ (fun z => by rw [z, hr] at a; cases a) a, b⟩
def tCallC (sp : Sp) (i : Nat) (d : Addr) (t : TA) : TE := fun σ H Q => t σ H fun vs H1 => ∃ v, σ[i]? = some (some v) ∧ (H1 d = none → ∀ oc u, oc.data = .cell (some u) → RelV v u → sp vs (upd H1 d (czO oc d)) (fun r H2 => Q r (del H2 d)) E0)
section
variable {X : Cx} {P : Program} {w : World} {k i : Nat} {f d : Addr} {fd : FuncData} {ps : List Str} {sp : Sp} {x y : Str} {p pos : Pos} {e : Expr} {es : List Expr} {t : TA}
theorem cellAway {pins : List (Addr × Obj)} {σ : St} {H : Hp} {s : Shared} (I : Inv X pins σ H s) (hc : X.env.cells.lookup y = some d) (hf : X.fn y = true) : X.base.get? d = none ∧ d ∉ frs X.stack := by
  have lo := I.ok.cab y d hf hc
  refine ⟨?_, fun z => ?_⟩
  · cases q : X.base.get? d with
    | none => rfl
    | some o => exact absurd (Nat.lt_of_lt_of_le (Heap.lt_size q) I.ok.bsz) (Nat.not_lt.mpr lo)
  · rcases List.mem_cons.mp (I.stkSub d z) with z | z
    · obtain ⟨v, oc, g, hd⟩ := I.cell y d hc
      obtain ⟨m, ⟨o, es, ep, g2, hd2, _⟩, _⟩ := I.loc
      rw [← z, g] at g2
      cases g2
      rw [hd] at hd2
      cases hd2
    · obtain ⟨_, o, ho, _⟩ := I.ok.funs.mem z
      exact absurd (Heap.lt_size ho) (Nat.not_lt.mpr lo)
theorem pe_callC (F : FnOk X.prog X.w X.K X.mg X.base (CXU P w) k f fd ps sp) (hr : Room k X.A) (hg : Gl X x) (hm : X.mg x = some (.ref f)) (hk : PySem.W.keepIn X.K (.ref f) = true) (hb : Binds X.K fd ps []) (hN : X.N[i]? = some y) (hy : X.env.scope.names.lookup y = some .cell) (hc : X.env.cells.lookup y = some d) (hf : X.fn y = true)
    (ha : PA X (e :: es) t) (hdb : (x == ("__debug__" : Str)) = false := by decide) (he : starEach (e :: es) X.env = (false, eval e X.env) :: starEach es X.env := by rfl) (hpl : (backTo pos (starEach es X.env)).any (·.1) = false := by rfl) :
    PE X (.Call (.Name x p) (e :: es) [] pos) (tCallC sp i d t) := by
  skip; intro pins s σ H Q I h
  refine wpAny_Call_Name_kw (ld_glob I hg hm ?_ hdb)
  refine PySem.W.callWith_K (h₀ := X.base) I.ok.mod.kin hk (thn (ha pos pins s σ H _ I h) fun us s1 ⟨vs, H1, I1, r, v, ev, q⟩ => ⟨I1.kIn, ?_⟩) he hpl
  obtain ⟨m, hns, hloc⟩ := I1.loc
  obtain ⟨u, ru, lk⟩ := hloc i y v hN ev (.inr (.inl hy))
  obtain ⟨oc, g, hd⟩ : s1.heap.IsCell d (some u) := by
    rcases lk with ⟨z, _⟩ | ⟨_, c, ec, ic⟩
    · rw [show X.env.kindOf y = some .cell from hy] at z; cases z
    · rw [hc] at ec; cases ec; exact ic
  have nd : H1 d = none := I1.freeC y d hc
  obtain ⟨nb, nf⟩ := cellAway I1 hc hf
  have hsp := q nd oc u hd ru
  have hl : us.length = ps.length := by rw [← r.length]; exact F.len _ _ _ _ hsp
  have e0 : Env0 X.prog X.w X.K X.mg X.base X.A X.stack s1 (upd H1 d (czO oc d)) :=
    ⟨I1.ok.frames, I1.ok.mod, fun b o e => ⟨(I1.bs b o e).1, by rw [upd_ne (fun z => by rw [z, nb] at e; cases e)]; exact (I1.bs b o e).2⟩, Nat.le_trans I1.ok.bsz I1.sz, I1.stack, fun b hb => by have nz : b ≠ d := fun z => nf (z ▸ hb); rw [upd_ne nz]; exact I1.stkFree b hb, I1.hok.add nd g, I1.bare⟩
  refine wpAny_call (codeAny_mono (F.run X.A X.stack s1 _ ⟨us, []⟩ us vs _ E0 hr e0 (by have := hb s1 us I1.kIn (by simpa using hl); rw [List.append_nil] at this; exact this) r hsp) fun rr s' hq => ?_)
  cases rr with
  | error er =>
    obtain ⟨_, _, _, _, _, _, _, _, _, _, z⟩ := hq
    exact z.elim
  | ok fl =>
    cases fl with
    | ret uu =>
      obtain ⟨vv, H', os, bare, un, hok, rv, qv⟩ := hq
      have hz := un.frzs d _ _ upd_same
      obtain ⟨g', _⟩ := (show ObjOk X.prog X.w H' s'.heap d (czO oc d) from hok d _ hz)
      exact ⟨vv, _, I1.call' (ch := []) os (un.unfreeze nd g g') (hok.del hz) bare (fun b z => absurd z (by simp)), rv, qv⟩
    | next => exact False.elim hq
    | brk => exact False.elim hq
    | cont => exact False.elim hq
end
def LamHC (H : Hp) (f : Addr) (qual : Str) (params : Arguments) (lb : Expr) (sc : Scope) (y : Str) (d : Addr) : Prop := ∃ (c : Addr) (pm ctv : Value), H f = some (.frz (PySem.W.kla_obj "<lambda>" qual params lb sc [(y, d)] pm c ctv) (.own f)) ∧ CodeH H c qual
section
variable {H H' : Hp} {f d : Addr} {qual y : Str} {params : Arguments} {lb : Expr} {sc : Scope}
theorem LamHC.mono (e : ExtT H H') (h : LamHC H f qual params lb sc y d) : LamHC H' f qual params lb sc y d := let ⟨c, pm, ctv, h1, h2⟩ := h; ⟨c, pm, ctv, e _ _ h1 rfl, h2.mono e⟩
theorem LamHC.but {r C dx : Addr} {fs : List (Str × V)} (hr : H r = some (.ins C dx fs)) (e : But r H H') (h : LamHC H f qual params lb sc y d) : LamHC H' f qual params lb sc y d := by
  obtain ⟨c, pm, ctv, h1, oc, vs, t, k, k2⟩ := h
  exact ⟨c, pm, ctv, e _ _ (fun z => by rw [z, hr] at h1; cases h1) h1, oc, vs, t, e _ _ (fun z => by rw [z, hr] at k; cases k) k, k2⟩
theorem LamHC.butL {r : Addr} {xs : List V} (hr : H r = some (.lst xs)) (e : But r H H') (h : LamHC H f qual params lb sc y d) : LamHC H' f qual params lb sc y d := by
  obtain ⟨c, pm, ctv, h1, oc, vs, t, k, k2⟩ := h
  exact ⟨c, pm, ctv, e _ _ (fun z => by rw [z, hr] at h1; cases h1) h1, oc, vs, t, e _ _ (fun z => by rw [z, hr] at k; cases k) k, k2⟩
end
theorem lamC_start {X : Cx} {pins : List (Addr × Obj)} {σ : St} {H : Hp} {s : Shared} {A : Around} {x y qual : Str} {scope : Scope} {cs : List (Str × Addr)} {f c d : Addr} {oc : Obj} {h' : Heap} {tk : Nat} {v vy : V} {u uy : Value} {m : Str → Option Value} (I : Inv X pins σ H s)
    (hk : scope.kind = .function) (hA : A.frames = some X.stack) (hh : A.handled = none) (r : RelV v u) (ry : RelV vy uy) (hd : H d = some (czO oc d)) (hoc : oc.data = .cell (some uy)) (hns : h'.Ns s.heap.objs.size m) (hkp : ∀ b o, s.heap.get? b = some o → h'.get? b = some o)
    (hcs : ∀ z e, cs.lookup z = some e → (z = y ∧ e = d) ∨ (z = x ∧ e = s.heap.objs.size + 1 ∧ h'.IsCell e (some u))) (has : ∀ z, scope.names.lookup z = some .cell ∨ scope.names.lookup z = some .free → ∃ e, cs.lookup z = some e) (hy : scope.names.lookup y = some .free) (hyd : cs.lookup y = some d)
    (hx : (scope.names.lookup x = some .local ∧ m x = some u) ∨ (scope.names.lookup x = some .cell ∧ cs.lookup x = some (s.heap.objs.size + 1) ∧ h'.IsCell (s.heap.objs.size + 1) (some u))) :
    Inv (cxLam X pins [x, y] qual scope cs f c A s (del H d)) [] [some v, some vy] (del H d) { s with heap := h', toks := tk } := by
  obtain ⟨gd, _⟩ := (show ObjOk X.prog X.w H s.heap d (czO oc d) from I.hok d _ hd)
  have ld : d < s.heap.objs.size := Heap.lt_size gd
  have gd' := hkp _ _ gd
  have dn : ∀ {b : Addr}, H b = none → del H d b = none := fun {b} n => by rw [del_ne (fun z => by rw [z, hd] at n; cases n)]; exact n
  have noA : ∀ b : Addr, b ∉ (cxLam X pins [x, y] qual scope cs f c A s (del H d)).ex := fun b z => absurd (show b ∈ ([] : List Addr) from z) (by simp)
  have fresh : ∀ {b : Addr}, s.heap.objs.size ≤ b → del H d b = none := fun h => dn (I.hok.fresh h)
  refine ⟨⟨I.ok.mod, hk, rfl, rfl, Nat.le_refl _, fun z z' e h1 h2 => ?_, fun z hz => has z hz, (fun z e q => Bool.noConfusion (show false = true from q)), fun _ => hh, Around.frames_deeper hA, .inr ⟨rfl, rfl⟩, fun b z => absurd z (noA b),
    fun b o e => ⟨(I.bs b o e).1, dn (I.bs b o e).2⟩, Nat.le_trans I.ok.bsz I.sz, fun b _ _ => noA b, fun b z => absurd z (noA b), I.stack, fun b hb => dn (I.stkFree b hb)⟩, rfl, I.bare, Un.kept hkp, ⟨_, hns, fun i z w e1 e2 e3 => ?_⟩, fun z e h => ?_, fresh (Nat.le_refl _), fun z e h => ?_, fun p hp => ?_, (I.hok.del hd).kept hkp, rfl⟩
  · rcases hcs z e h1 with ⟨q1, q2⟩ | ⟨q1, q2, _⟩ <;> rcases hcs z' e h2 with ⟨p1, p2⟩ | ⟨p1, p2, _⟩
    · rw [q1, p1]
    · exact absurd (q2.symm.trans p2) (Nat.ne_of_lt (Nat.lt_succ_of_lt ld))
    · exact absurd (p2.symm.trans q2) (Nat.ne_of_lt (Nat.lt_succ_of_lt ld))
    · rw [q1, p1]
  · match i with
    | 0 =>
      have e1' : x = z := by have q : ([x, y] : List Str)[0]? = some z := e1; simpa using q
      have e2' : v = w := by simpa using e2
      subst e1' e2'
      refine ⟨u, r, ?_⟩
      rcases hx with ⟨a, b⟩ | ⟨a, b, g⟩
      · exact .inl ⟨a, b⟩
      · exact .inr ⟨.inl a, _, b, g⟩
    | 1 =>
      have e1' : y = z := by have q : ([x, y] : List Str)[1]? = some z := e1; simpa using q
      have e2' : vy = w := by simpa using e2
      subst e1' e2'
      exact ⟨uy, ry, .inr ⟨.inr hy, d, hyd, oc, gd', hoc⟩⟩
    | i + 2 => simp at e2
  · rcases hcs z e h with ⟨q1, q2⟩ | ⟨q1, q2, q3⟩
    · subst q2; exact ⟨_, oc, gd', hoc⟩
    · exact ⟨_, q3⟩
  · rcases hcs z e h with ⟨q1, q2⟩ | ⟨q1, q2, _⟩
    · subst q2; exact del_same
    · subst q2; exact fresh (Nat.le_succ _)
  · have hp' : p ∈ X.pn ++ pins := by
      rcases List.mem_append.mp hp with q | q
      · exact q
      · simp at q
    obtain ⟨q1, q2, q3, q4, q5⟩ := I.pin p hp'
    refine ⟨hkp _ _ q1, dn q2, Nat.ne_of_lt (Heap.lt_size q1), fun z => ?_, q5⟩
    rcases List.mem_cons.mp (I.stkSub _ z) with b | b
    · exact q3 b
    · exact q4 b
theorem cellsFrom_no : ∀ (names : List (Str × NameKind)) (n : Nat) (acc : List (Str × Addr)), (∀ z ∈ names, z.2 ≠ .cell) → cellsFrom n names acc = acc
  | [], _, _, _ => rfl
  | (a, k) :: r, n, acc, h => by
    unfold cellsFrom
    rw [if_neg (by have := h (a, k) List.mem_cons_self; simpa using this)]
    exact cellsFrom_no r n acc fun z hz => h z (List.mem_cons_of_mem _ hz)
theorem pushCells_no : ∀ (names : List (Str × NameKind)) (h : Heap), (∀ z ∈ names, z.2 ≠ .cell) → pushCells h names = h
  | [], _, _ => rfl
  | (a, k) :: r, h, q => by
    unfold pushCells
    rw [if_neg (by have := q (a, k) List.mem_cons_self; simpa using this)]
    exact pushCells_no r h fun z hz => q z (List.mem_cons_of_mem _ hz)
theorem nfe_cell {M : Model} {A : Around} {E : Value → Shared → Prop} {s : Shared} {scope : Scope} {globals : Addr} {cl : List (Str × Addr)} {x : Str} {u : Value} {rest : List (Str × NameKind)} {qual : Str} {func : Option Addr} {code : Value} {builtins : Addr} {Q : Env → Shared → Prop} (hk : scope.kind = .function)
    (hn : scope.names = (x, .cell) :: rest) (hr : ∀ z ∈ rest, z.2 ≠ .cell)
    (hQ : ∀ h', (∀ b o, s.heap.get? b = some o → h'.get? b = some o) → h'.Ns s.heap.objs.size (fun _ => none) → h'.IsCell (s.heap.objs.size + 1) (some u) → Q (newEnv scope s.heap.objs.size globals ((x, s.heap.objs.size + 1) :: cl) qual func code none builtins) { s with heap := h' }) :
    wpAny M A (newFunctionEnv scope globals cl [(x, u)] qual func code none builtins) Q E s := by
  skip; simp only [newFunctionEnv, Option.isSome_none, Bool.false_eq_true, if_false]
  skip; refine wpAny_bind (wpAny_alloc ?_)
  skip; refine wpAny_bind (wpAny_layCells _ (fun name kind cells => by cases hkc : kind == NameKind.cell <;> simp [hkc]) _ _ _ _ ?_)
  rw [hn]
  have ec : cellsFrom (s.heap.push { cls := .type "frame", data := .dict #[] }).objs.size ((x, .cell) :: rest) cl = (x, s.heap.objs.size + 1) :: cl := by
    unfold cellsFrom
    rw [if_pos (by decide), cellsFrom_no _ _ _ hr, Heap.size_push]
  have ep : pushCells (s.heap.push { cls := .type "frame", data := .dict #[] }) ((x, .cell) :: rest) = (s.heap.push { cls := .type "frame", data := .dict #[] }).push { cls := .type "cell", data := .cell none } := by
    unfold pushCells
    rw [if_pos (by decide), pushCells_no _ _ hr]
  rw [show cellsFrom ({ s with heap := s.heap.push { cls := .type "frame", data := .dict #[] } } : Shared).heap.objs.size ((x, .cell) :: rest) cl = (x, s.heap.objs.size + 1) :: cl from ec, show pushCells ({ s with heap := s.heap.push { cls := .type "frame", data := .dict #[] } } : Shared).heap ((x, .cell) :: rest) = (s.heap.push { cls := .type "frame", data := .dict #[] }).push { cls := .type "cell", data := .cell none } from ep]
  have n1 : (s.heap.push { cls := .type "frame", data := .dict #[] }).objs.size = s.heap.objs.size + 1 := Heap.size_push ..
  have ic : ((s.heap.push { cls := .type "frame", data := .dict #[] }).push { cls := .type "cell", data := .cell none }).IsCell (s.heap.objs.size + 1) none := ⟨_, by rw [← n1]; exact Heap.get?_push_size _ rfl, rfl⟩
  have kn : (newEnv scope s.heap.objs.size globals ((x, s.heap.objs.size + 1) :: cl) qual func code none builtins).kindOf x = some .cell := by
    show scope.names.lookup x = _
    rw [hn]
    simp
  rw [List.forIn_cons]
  refine wpAny_bind (wpAny_bind (wpAny_bind (wpAny_storeName_cell (s := { s with heap := (s.heap.push { cls := .type "frame", data := .dict #[] }).push { cls := .type "cell", data := .cell none } }) (env := newEnv scope s.heap.objs.size globals ((x, s.heap.objs.size + 1) :: cl) qual func code none builtins) hk kn (show List.lookup x ((x, s.heap.objs.size + 1) :: cl) = some (s.heap.objs.size + 1) by simp) ic fun h' hc' hs' => ?_)))
  refine wpAny_pure ?_
  dsimp only
  rw [List.forIn_nil]
  refine wpAny_pure (wpAny_pure (hQ h' (fun b o e => ?_) ?_ hc'))
  · exact (hs'.2 b (Nat.ne_of_lt (Nat.lt_succ_of_lt (Heap.lt_size e)))).trans (Heap.get?_push_of_some _ (Heap.get?_push_of_some _ e))
  · exact ((Heap.Ns.new s.heap (.type "frame")).keeps (fun b o e => Heap.get?_push_of_some _ e)).sameBut hs' (Nat.ne_of_lt (Nat.lt_succ_self _))
structure LamC1 (sc : Scope) (x y : Str) : Prop where
  kind : sc.kind = .function
  co : sc.isCoroutine = false
  gen : sc.isGenerator = false
  nc : ∀ z ∈ sc.names, z.2 ≠ .cell
  par : sc.names.lookup x = some .local
  fre : sc.names.lookup y = some .free
  only : ∀ z ∈ sc.names, z.2 = .free → z.1 = y
structure LamC2 (sc : Scope) (x y : Str) (rest : List (Str × NameKind)) : Prop where
  kind : sc.kind = .function
  co : sc.isCoroutine = false
  gen : sc.isGenerator = false
  names : sc.names = (x, .cell) :: rest
  nc : ∀ z ∈ rest, z.2 ≠ .cell
  ne : x ≠ y
  fre : sc.names.lookup y = some .free
  only : ∀ z ∈ sc.names, z.2 = .free → z.1 = y
abbrev LAC (α : Type) := List (Addr × Obj) → Addr → Addr → Shared → Addr → Hp → α
section
variable {X : Cx} {pins : List (Addr × Obj)} {σ : St} {H : Hp} {s : Shared}
theorem lamC_call {A : Around} {E : Value → Shared → Prop} {k : Nat} {x y qual : Str} {params : Arguments} {body : Expr} {scope : Scope} {cs : List (Str × Addr)} {f c d : Addr} {pm ctv : Value} {t : TE} {v vy : V} {u : Value} {Q : VK} (I : Inv X pins σ H s) (hk : scope.kind = .function) (hco : scope.isCoroutine = false) (hgen : scope.isGenerator = false)
    (hA : A.frames = some X.stack) (hr : Room (k + 1) A) (hf : H f = some (.frz (PySem.W.kla_obj "<lambda>" qual params body scope [(y, d)] pm c ctv) (.own f))) (hc : CodeH H c qual) (hC : CellH H d vy) (r : RelV v u)
    (hbind : bindArgs (PySem.W.kla_fn "<lambda>" qual params body scope [(y, d)] pm (.ref c) ctv) ⟨[u], []⟩ = pure [(x, u)])
    (hfr : ∀ (Q' : Env → Shared → Prop) (E' : Value → Shared → Prop), (∀ h' tk m, h'.Ns s.heap.objs.size m → (∀ b o, s.heap.get? b = some o → h'.get? b = some o) → (∀ z e, cs.lookup z = some e → (z = y ∧ e = d) ∨ (z = x ∧ e = s.heap.objs.size + 1 ∧ h'.IsCell e (some u))) →
        ((scope.names.lookup x = some .local ∧ m x = some u) ∨ (scope.names.lookup x = some .cell ∧ cs.lookup x = some (s.heap.objs.size + 1) ∧ h'.IsCell (s.heap.objs.size + 1) (some u))) → Q' (PySem.W.envX qual scope s.heap.objs.size f (.ref c) cs) { s with heap := h', toks := tk }) →
      wpAny (model X.prog X.w) A.in1 (newFunctionEnv scope mainGlobals [(y, d)] [(x, u)] (qual ++ ".<locals>.") (some f) (.ref c) none builtinsNs) Q' E' s)
    (has : ∀ z, scope.names.lookup z = some .cell ∨ scope.names.lookup z = some .free → ∃ e, cs.lookup z = some e) (hy : scope.names.lookup y = some .free) (hyd : cs.lookup y = some d)
    (hb : PE (cxLam X pins [x, y] qual scope cs f c A s (del H d)) body t) (hq : t [some v, some vy] (del H d) fun r H2 => H2 d = none → ∀ oc, H d = some (czO oc d) → Q r (upd H2 d (czO oc d))) : wpAny (model X.prog X.w) A (call (.ref f) [u]) (EP X pins σ Q) E s := by
  obtain ⟨ho, _⟩ := (show ObjOk X.prog X.w _ _ f (.frz _ (.own f)) from I.hok f _ hf)
  obtain ⟨oc, uy, hd, hoc, ry⟩ := hC
  obtain ⟨gd, _⟩ := (show ObjOk X.prog X.w H s.heap d (czO oc d) from I.hok d _ hd)
  have nf : d ∉ frs X.stack := fun z => by have := I.stkFree d z; rw [hd] at this; cases this
  refine wpAny_call (PySem.W.kla_callFunE hr.depth ho rfl hco hgen rfl (hc.record I.hok) ?_)
  rw [hbind]
  refine wpAny_pure (hfr _ _ fun h₁ tk m hns hk₁ hcs hx => ⟨I.nolimit.keeps hk₁, ?_⟩)
  have J := lamC_start (A := A) (qual := qual) (f := f) (c := c) (tk := tk) I hk hA hr.hd r ry hd hoc hns hk₁ hcs has hy hyd hx
  show codeAny _ _ (.expr body (PySem.W.envX qual scope s.heap.objs.size f (.ref c) cs)) _ _
  refine PySem.W.kla_codeExpr (wpAny_mono (hb [] _ _ (del H d) _ J hq) (fun u' s' ⟨v', H', J', r', q'⟩ => ?_) fun _ _ z => False.elim z)
  obtain ⟨g', n', un⟩ := Un.refreeze J'.base hd nf gd
  have I' : Inv X pins σ (upd H' d (czO oc d)) s' := I.call' (ch := []) J'.os un (J'.hok.add n' g') J'.bare fun b z => absurd z (by simp)
  exact ⟨v', _, I', r', q' n' oc hd⟩
end
def tCallVC (i : Nat) (qual : Str) (params : Arguments) (lb : Expr) (sc : Scope) (y : Str) (t : TA) (tb : LAC TE) : TE := fun σ H Q => ∃ f d vy, σ[i]? = some (some (.ref f)) ∧ LamHC H f qual params lb sc y d ∧ t σ H fun vs H1 => ∃ v, vs = [v] ∧ LamHC H1 f qual params lb sc y d ∧ CellH H1 d vy ∧
  ∀ pins c s, tb pins f c s d (del H1 d) [some v, some vy] (del H1 d) fun r H2 => H2 d = none → ∀ oc, H1 d = some (czO oc d) → Q r (upd H2 d (czO oc d))
section
variable {X : Cx} {k i : Nat} {p pos : Pos} {e lb : Expr} {t : TA} {params : Arguments} {sc : Scope} {x y z qual : Str} {tb : LAC TE} {rest : List (Str × NameKind)}
theorem callVC_of (hN : X.N[i]? = some x) (hv : Vis X.env.scope x) (ha : PA X [e] t) (hd : (x == ("__debug__" : Str)) = false) (hcd : (x == ("__classdict__" : Str)) = false)
    (he : starEach [e] X.env = [(false, eval e X.env)])
    (run : ∀ {pins : List (Addr × Obj)} {s : Shared} {σ : St} {H : Hp} {Q : VK} {f d c : Addr} {pm ctv : Value} {v vy : V} {u : Value}, Inv X pins σ H s → H f = some (.frz (PySem.W.kla_obj "<lambda>" qual params lb sc [(y, d)] pm c ctv) (.own f)) → CodeH H c qual → CellH H d vy → RelV v u →
      (tb pins f c s d (del H d) [some v, some vy] (del H d) fun r H2 => H2 d = none → ∀ oc, H d = some (czO oc d) → Q r (upd H2 d (czO oc d))) → wpAny (model X.prog X.w) X.A (call (.ref f) [u]) (EP X pins σ Q) X.xe s) :
    PE X (.Call (.Name x p) [e] [] pos) (tCallVC i qual params lb sc y t tb) := by
  skip; intro pins s σ H Q I h
  obtain ⟨f, d, vy, hf, hL, q⟩ := h
  have fnat : ∀ {H1 : Hp} {s1 : Shared} {ps : List (Addr × Obj)}, Inv X ps σ H1 s1 → LamHC H1 f qual params lb sc y d → PySem.W.FnAt f s1.heap := fun J ⟨c', pm, ctv, h1, _⟩ => by
    obtain ⟨e1, _⟩ := (show ObjOk X.prog X.w _ _ f (.frz _ (.own f)) from J.hok f _ h1)
    exact ⟨_, _, _, _, e1⟩
  refine wpAny_Call_Name_kw (Q := EP X pins σ Q) ?_
  refine thn (pe_var (pos := p) hN hv hd hcd pins s σ H (fun v H1 => v = .ref f ∧ H1 = H) I ⟨_, hf, rfl, rfl⟩) fun u s0 ⟨v, H0, I0, r0, ev, eH⟩ => ?_
  subst ev eH
  cases r0
  refine PySem.W.callWith_F (fnat I0 hL) (thn (ha pos pins s0 σ _ _ I0 q) fun us s1 ⟨vs, H1, I1, r1, v, ev, hL1, hC1, q1⟩ => ⟨fnat I1 hL1, ?_⟩) he (by rfl)
  subst ev
  obtain ⟨u, rfl, ru⟩ := vals1 r1
  obtain ⟨c', pm, ctv, h1, hc⟩ := id hL1
  exact run I1 h1 hc hC1 ru (q1 pins c' s1)
theorem pe_callVC2 (hN : X.N[i]? = some x) (hv : Vis X.env.scope x) (hr : Room (k + 1) X.A) (ha : PA X [e] t) (O : LamC2 sc z y rest) (hbind : ∀ d pm cd ct u, bindArgs (PySem.W.kla_fn "<lambda>" qual params lb sc [(y, d)] pm cd ct) ⟨[u], []⟩ = pure [(z, u)])
    (hb : ∀ pins f c' (s : Shared) d Hc, PE (cxLam X pins [z, y] qual sc [(z, s.heap.objs.size + 1), (y, d)] f c' X.A s Hc) lb (tb pins f c' s d Hc)) (hd : (x == ("__debug__" : Str)) = false := by decide) (hcd : (x == ("__classdict__" : Str)) = false := by decide)
    (he : starEach [e] X.env = [(false, eval e X.env)] := by rfl) : PE X (.Call (.Name x p) [e] [] pos) (tCallVC i qual params lb sc y t tb) := by
  refine callVC_of hN hv ha hd hcd he fun {pins s σ H Q f d c pm ctv v vy u} I h1 hc hC ru q => ?_
  have lz : List.lookup z [(z, s.heap.objs.size + 1), (y, d)] = some (s.heap.objs.size + 1) := by simp
  have ly : List.lookup y [(z, s.heap.objs.size + 1), (y, d)] = some d := by
    rw [List.lookup_cons, show (y == z) = false by simpa using Ne.symm O.ne]
    simp
  have kz : sc.names.lookup z = some .cell := by rw [O.names]; simp
  refine lamC_call I O.kind O.co O.gen I.ok.frames hr h1 hc hC ru (hbind _ _ _ _ _) (fun Q' E' hq => ?_) (fun z' hz => ?_) O.fre ly (hb pins f c s d (del H d)) q
  · refine nfe_cell O.kind O.names O.nc fun h₁ hk₁ hns hcl => hq h₁ s.toks _ hns hk₁ (fun z' e' hz => ?_) (.inr ⟨kz, lz, hcl⟩)
    rw [List.lookup_cons] at hz
    split at hz
    · rename_i q; cases hz; exact .inr ⟨by simpa using q, rfl, hcl⟩
    · rw [List.lookup_cons] at hz
      split at hz
      · rename_i q; cases hz; exact .inl ⟨by simpa using q, rfl⟩
      · cases hz
  · rcases hz with hz | hz
    · have := PySem.mem_of_lookup hz
      rw [O.names] at this
      rcases List.mem_cons.mp this with q | q
      · exact ⟨_, by rw [show z' = z from (Prod.mk.inj q).1]; exact lz⟩
      · exact absurd rfl (O.nc _ q)
    · exact ⟨d, by rw [show z' = y from O.only _ (PySem.mem_of_lookup hz) rfl]; exact ly⟩
end
theorem But.tk {P : Addr} {H H' : Hp} {ps : Array Value} (hP : H P = some (.tbl ps)) (e : But P H H') : ExtT H H' := fun b o h n => e b o (fun z => by rw [z, hP] at h; cases h; cases n) h
theorem TabR.is {H : Hp} {P : Addr} {pos : Pos} {qual : Str} (h : TabR H P pos qual) : ∃ ps, H P = some (.tbl ps) := by
  rcases h with h | ⟨c, h, _⟩
  · exact ⟨_, h⟩
  · exact ⟨_, h⟩
theorem TabR.keep {H H' : Hp} {P R : Addr} {pos : Pos} {qual : Str} {ps : Array Value} (hR : H R = some (.tbl ps)) (n : P ≠ R) (e : But R H H') (h : TabR H P pos qual) : TabR H' P pos qual := by
  rcases h with h | ⟨c, h, k⟩
  · exact .inl (e _ _ n h)
  · exact .inr ⟨c, e _ _ n h, k.mono (But.tk hR e)⟩
theorem But.new {p x : Addr} {H H1 H2 H3 : Hp} (a : But p H H1) (n : H1 x = none) (e : Ext H1 H2) (b : But x H2 H3) : But p H H3 := fun y o ny h => b y o (fun z => by have := a y o ny h; rw [z, n] at this; cases this) (e y o (a y o ny h))
section
variable {X : Cx} {pins : List (Addr × Obj)} {σ : St} {H : Hp} {s : Shared}
theorem lam_make0B {A : Around} {E : Value → Shared → Prop} {P c : Addr} {params : Arguments} {body : Expr} {scope : Scope} {pos : Pos} {clos : List (Str × Addr)} {Q : Value → Shared → Prop} (I : Inv X pins σ H s) (hcd : X.env.code = .ref c) (hC : PySem.W.codeHdIn X.K c P = true)
    (hT : TabR H P pos (X.env.qual ++ "<lambda>")) (hdef : defaultsOf params X.env = ([], [])) (hcl : closureFor scope X.env = pure clos)
    (h : ∀ (c' : Addr) (pm ctv : Value) (H' : Hp) (h2 : Heap) (tk : Nat), Inv X pins σ H' { s with heap := h2, toks := tk } → CodeH H' c' (X.env.qual ++ "<lambda>") → TabR H' P pos (X.env.qual ++ "<lambda>") → But P H H' → Q (.ref h2.objs.size) { s with heap := h2.push (PySem.W.kla_obj "<lambda>" (X.env.qual ++ "<lambda>") params body scope clos pm c' ctv), toks := tk }) :
    wpAny (model X.prog X.w) A (eval (.Lambda params body scope pos) X.env) Q E s := by
  have hg := I.mod.glob.keeps I.bk
  have C := PySem.W.codeHd_of_K I.kIn hC
  have tab : ∀ {ps : Array Value}, H P = some (.tbl ps) → s.heap.get? P = some (PySem.W.tabObj ps) := fun e => (show ObjOk X.prog X.w H s.heap P (.tbl _) from I.hok P _ e)
  obtain ⟨ps0, hP0⟩ : ∃ ps, s.heap.get? P = some (PySem.W.tabObj ps) := by
    rcases hT with hT | ⟨c', hT, _⟩
    · exact ⟨_, tab hT⟩
    · exact ⟨_, tab hT⟩
  have gnP : mainGlobals ≠ P := fun q => by
    obtain ⟨o, es, ep, e, hd, _⟩ := hg
    rw [q, hP0] at e; cases e; cases hd
  obtain ⟨bm, ob, b1, b2, b3, b4, b5, b6⟩ := I.mod.bmain
  have b3' := I.bk _ _ b3
  have hbP : bm ≠ P := fun q => by rw [q, hP0] at b3'; cases b3'; cases b4
  have bnG : bm ≠ mainGlobals := fun q => by
    obtain ⟨o, es, ep, e, hd, _⟩ := hg
    rw [q, e] at b3'; cases b3'; rw [hd] at b6; cases b6
  refine PySem.W.kla_eval hdef ?_
  rcases hT with hT | ⟨c', hT, hcc⟩
  · refine PySem.W.kla_makeFunction hcl I.ok.glob hg hcd C (tab hT) trivial rfl gnP ⟨bm, ob, b1, b2, bnG, hbP, b3', b4, b5, b6⟩ fun c' ctv h' tk hx hge hlt hrec htb => ?_
    obtain ⟨c2, oc, vs, t, e2, hoc, hd, hv⟩ := hrec
    cases e2
    have J := inv_grown (t' := tk) I hT hx hge hoc htb
    have nc : H c' = none := I.hok.fresh hge
    have hcc : CodeH (upd (upd H P (.tbl (#[] ++ #[rawInt pos.line, rawInt pos.col, .ref c']))) c' (.frz oc (.own c'))) c' (X.env.qual ++ "<lambda>") := ⟨oc, vs, t, upd_same, hd, hv⟩
    refine h c' _ ctv _ h' tk J hcc (.inr ⟨c', ?_, hcc⟩) fun b o n e => ?_
    · rw [upd_ne (ne_of_none hT nc), upd_same]
      rfl
    · rw [upd_ne (ne_of_none e nc), upd_ne n]
      exact e
  · refine PySem.W.kla_makeFunctionHit hcl I.ok.glob hg hcd C (tab hT) trivial (cv := .ref c') (codeAmong_snoc [] trivial rfl) ⟨bm, ob, b1, b2, bnG, hbP, b3', b4, b5, b6⟩ fun ctv h' tk hk hsz => ?_
    have J : Inv X pins σ H { s with heap := h', toks := tk } := I.kept hk
    exact h c' _ ctv H h' tk J hcc (.inr ⟨c', hT, hcc⟩) (fun b o _ h => h)
end
section
variable {X : Cx} {pins : List (Addr × Obj)} {σ : St} {H : Hp} {s : Shared}
theorem lam_makeB {A : Around} {E : Value → Shared → Prop} {P c : Addr} {params : Arguments} {body : Expr} {scope : Scope} {pos : Pos} {clos : List (Str × Addr)} {Q : Value → Shared → Prop} (I : Inv X pins σ H s) (hcd : X.env.code = .ref c) (hC : PySem.W.codeHdIn X.K c P = true)
    (hT : TabR H P pos (X.env.qual ++ "<lambda>")) (hdef : defaultsOf params X.env = ([], [])) (hcl : closureFor scope X.env = pure clos)
    (h : ∀ (f c' : Addr) (pm ctv : Value) (H' : Hp) (s' : Shared), Inv X (pins ++ [(f, PySem.W.kla_obj "<lambda>" (X.env.qual ++ "<lambda>") params body scope clos pm c' ctv)]) σ H' s' → CodeH H' c' (X.env.qual ++ "<lambda>") → TabR H' P pos (X.env.qual ++ "<lambda>") → But P H H' → Q (.ref f) s') :
    wpAny (model X.prog X.w) A (eval (.Lambda params body scope pos) X.env) Q E s := by
  have hg := I.mod.glob.keeps I.bk
  have C := PySem.W.codeHd_of_K I.kIn hC
  have tab : ∀ {ps : Array Value}, H P = some (.tbl ps) → s.heap.get? P = some (PySem.W.tabObj ps) := fun e => (show ObjOk X.prog X.w H s.heap P (.tbl _) from I.hok P _ e)
  obtain ⟨ps0, hP0⟩ : ∃ ps, s.heap.get? P = some (PySem.W.tabObj ps) := by
    rcases hT with hT | ⟨c', hT, _⟩
    · exact ⟨_, tab hT⟩
    · exact ⟨_, tab hT⟩
  have gnP : mainGlobals ≠ P := fun q => by
    obtain ⟨o, es, ep, e, hd, _⟩ := hg
    rw [q, hP0] at e; cases e; cases hd
  obtain ⟨bm, ob, b1, b2, b3, b4, b5, b6⟩ := I.mod.bmain
  have b3' := I.bk _ _ b3
  have hbP : bm ≠ P := fun q => by rw [q, hP0] at b3'; cases b3'; cases b4
  have bnG : bm ≠ mainGlobals := fun q => by
    obtain ⟨o, es, ep, e, hd, _⟩ := hg
    rw [q, e] at b3'; cases b3'; rw [hd] at b6; cases b6
  have pinned : ∀ {H' : Hp} {h2 : Heap} {o : Obj} {tk : Nat}, Inv X pins σ H' { s with heap := h2, toks := tk } → (∀ v, o.data ≠ .cell v) → o.isFreed = false →
      Inv X (pins ++ [(h2.objs.size, o)]) σ H' { s with heap := h2.push o, toks := tk } := fun {H' h2 o tk} J hd hfr => by
    have J2 : Inv X pins σ H' { s with heap := h2.push o, toks := tk } := J.kept fun b u e => Heap.get?_push_of_some _ e
    refine J2.pins_of fun p hp => ?_
    skip; rcases List.mem_append.mp hp with z | z
    · exact J2.pin p (List.mem_append_right _ z)
    · rw [List.mem_singleton.mp z]
      exact ⟨Heap.get?_push_size _ hfr, J.hok.fresh (Nat.le_refl _), Nat.ne_of_gt J.lt, J.nofs (Nat.le_refl _), hd⟩
  refine PySem.W.kla_eval hdef ?_
  rcases hT with hT | ⟨c', hT, hcc⟩
  · refine PySem.W.kla_makeFunction hcl I.ok.glob hg hcd C (tab hT) trivial rfl gnP ⟨bm, ob, b1, b2, bnG, hbP, b3', b4, b5, b6⟩ fun c' ctv h' tk hx hge hlt hrec htb => ?_
    obtain ⟨c2, oc, vs, t, e2, hoc, hd, hv⟩ := hrec
    cases e2
    have J := inv_grown (t' := tk) I hT hx hge hoc htb
    have nc : H c' = none := I.hok.fresh hge
    have hcc : CodeH (upd (upd H P (.tbl (#[] ++ #[rawInt pos.line, rawInt pos.col, .ref c']))) c' (.frz oc (.own c'))) c' (X.env.qual ++ "<lambda>") := ⟨oc, vs, t, upd_same, hd, hv⟩
    refine h _ c' _ ctv _ _ (pinned J (fun v z => by cases z) rfl) hcc (.inr ⟨c', ?_, hcc⟩) fun b o n e => ?_
    · rw [upd_ne (ne_of_none hT nc), upd_same]
      rfl
    · rw [upd_ne (ne_of_none e nc), upd_ne n]
      exact e
  · refine PySem.W.kla_makeFunctionHit hcl I.ok.glob hg hcd C (tab hT) trivial (cv := .ref c') (codeAmong_snoc [] trivial rfl) ⟨bm, ob, b1, b2, bnG, hbP, b3', b4, b5, b6⟩ fun ctv h' tk hk hsz => ?_
    have J : Inv X pins σ H { s with heap := h', toks := tk } := I.kept hk
    exact h _ c' _ ctv H _ (pinned J (fun v z => by cases z) rfl) hcc (.inr ⟨c', hT, hcc⟩) fun b o _ h => h
end
def tMinKB (κ : Type) (KR : (Nat → κ) → Hp → V → Nat → Prop) (lt : (Nat → κ) → Nat → Nat → Bool) (P : Addr) (lp : Pos) (qual : Str) (t : TA) (js : List Nat) (tb : LA TE) : TE := fun σ H Q => t σ H fun vs H1 =>
  ∃ (l : Addr) (xs : List V) (tp : Bool) (kf : Nat → κ), vs = [.ref l] ∧ H1 l = some (srcO tp xs) ∧ 0 < xs.length ∧ TabR H1 P lp qual ∧
    (∀ i x, xs[i]? = some x → ∀ pins f c s Hc H2, ExtT H1 H2 → tb pins f c s Hc (lSt x js σ) H2 fun kv H3 => KR kf H3 kv i ∧ Ext H2 H3) ∧
    ∀ x H2, xs[bestOf (lt kf) (xs.length - 1)]? = some x → ExtT H1 H2 → But P H1 H2 → TabR H2 P lp qual → Q x H2
section
variable {X : Cx} {κ : Type} {KR : (Nat → κ) → Hp → V → Nat → Prop} {lt : (Nat → κ) → Nat → Nat → Bool} {k : Nat} {c P : Addr} {p pos lp kp : Pos} {e lb : Expr} {t : TA} {params : Arguments} {sc : Scope} {cl : List (Str × Addr)} {x : Str} {fr : List Str} {js : List Nat} {tb : LA TE}
theorem pe_minKeyB (KY : ∀ σ kf, Keyed X X.A.in1 σ (KR kf) (lt kf)) (hr : Room (k + 2) X.A) (hg : Gl X "min") (hm : X.mg "min" = none) (ha : PA X [e] t) (hcd : X.env.code = .ref c) (hC : PySem.W.codeHdIn X.K c P = true) (hdef : defaultsOf params X.env = ([], [])) (O : LamOk X sc cl x fr js)
    (hbind : ∀ pm cd ct u, bindArgs (PySem.W.kla_fn "<lambda>" (X.env.qual ++ "<lambda>") params lb sc cl pm cd ct) ⟨[u], []⟩ = pure [(x, u)])
    (hb : ∀ pins f c' s Hc, PE (cxLam X pins (x :: fr) (X.env.qual ++ "<lambda>") sc cl f c' X.A.in1 s Hc) lb (tb pins f c' s Hc))
    (he : starEach [e] X.env = [(false, eval e X.env)] := by rfl) :
    PE X (.Call (.Name "min" p) [e] [⟨some "key", .Lambda params lb sc lp, kp⟩] pos) (tMinKB κ KR lt P lp (X.env.qual ++ "<lambda>") t js tb) := by
  intro pins s σ H Q I h
  refine wpAny_Call_Name_kw (ld_blt I hg hm (u := .builtin "min") rfl ?_ (by decide) (by decide))
  refine callWith_kw (thn (ha pos pins s σ H _ I h) fun us s1 ⟨vs, H1, I1, r1, q1⟩ => ?_) (by rw [he]; rfl) (by rw [he]; rfl)
  obtain ⟨l, xs, tp, kf, rfl, hl, hne, hT, hturn, hfin⟩ := q1
  obtain ⟨u, rfl, ru⟩ := vals1 r1
  cases ru
  refine kws_cons (lam_makeB I1 hcd hC hT hdef (closureFor_of O.clos) fun f c' pm ctv H2 s2 I2 hc2 hT2 b2 => kws_nil ?_)
  obtain ⟨ps0, hP0⟩ := hT.is
  have e2 : ExtT H1 H2 := But.tk hP0 b2
  show wpAny _ _ (call (.builtin "min") [.ref l] [(Str.ofString "key", .ref f)]) _ _ _
  refine mk_min (G := fun H => H l = some (srcO tp xs) ∧ (ExtT H1 H ∧ But P H1 H) ∧ TabR H P lp (X.env.qual ++ "<lambda>") ∧ CodeH H c' (X.env.qual ++ "<lambda>")) (tp := tp) (xs := xs) (KR := KR kf) (lt := lt kf) hr.hd I2 ⟨e2 _ _ hl (noTb_src _ _), ⟨e2, b2⟩, hT2, hc2⟩ (KY σ kf)
    ⟨fun e ⟨g1, g2, g3, g4⟩ => ⟨e _ _ g1, ⟨g2.1.tr (Ext.toT e), fun b o n h => e _ _ (g2.2 b o n h)⟩, g3.ext e, g4.mono (Ext.toT e)⟩, fun ⟨g1, _⟩ => sqe_src g1, fun {ps H3 s3 i y v E} hps I3 ⟨g1, g2, g3, g4⟩ hy rv => ?_⟩ hne fun {H3 s3 y v} hy rv I3 ⟨g1, g2, g3, g4⟩ => ?_
  · exact lam_call I3 O I3.ok.frames hr.in1 (hps _ (List.mem_append_right _ (.head _))) g4 rv (hbind _ _ _ _) (hb ps f c' s3 H3) (hturn i y hy ps f c' s3 H3 H3 g2.1)
  · exact ⟨y, H3, I3.pins_of (fun p hp => I3.pin p (List.mem_append_right _ (List.mem_append_left _ hp))), rv, hfin y H3 hy g2.1 g2.2 g3⟩
end
def tLamCB (P : Addr) (lp : Pos) (qual : Str) (params : Arguments) (lb : Expr) (sc : Scope) (y : Str) (d : Addr) : TE := fun _ H Q => TabR H P lp qual ∧ ∀ f H', LamHC H' f qual params lb sc y d → TabR H' P lp qual → ExtT H H' → But P H H' → Q (.ref f) H'
section
variable {X : Cx} {c P d : Addr} {lp : Pos} {lb : Expr} {params : Arguments} {sc : Scope} {y : Str}
theorem pe_lamCB (hcd : X.env.code = .ref c) (hC : PySem.W.codeHdIn X.K c P = true) (hdef : defaultsOf params X.env = ([], [])) (hcl : closOf X.env.cells sc.names [] = some [(y, d)]) : PE X (.Lambda params lb sc lp) (tLamCB P lp (X.env.qual ++ "<lambda>") params lb sc y d) := by
  skip; intro pins s σ H Q I h
  obtain ⟨hT, q⟩ := h
  refine lam_make0B I hcd hC hT hdef (closureFor_of hcl) fun c' pm ctv H' h2 tk J hc hT2 b2 => ?_
  obtain ⟨ps0, hP0⟩ := hT.is
  have e2 : ExtT H H' := But.tk hP0 b2
  have nf : H' h2.objs.size = none := J.hok.fresh (Nat.le_refl _)
  have at1 : (h2.push (PySem.W.kla_obj "<lambda>" (X.env.qual ++ "<lambda>") params lb sc [(y, d)] pm c' ctv)).get? h2.objs.size = some (PySem.W.kla_obj "<lambda>" (X.env.qual ++ "<lambda>") params lb sc [(y, d)] pm c' ctv) := Heap.get?_push_size _ rfl
  have J2 : Inv X pins σ (upd H' h2.objs.size (.frz (PySem.W.kla_obj "<lambda>" (X.env.qual ++ "<lambda>") params lb sc [(y, d)] pm c' ctv) (.own h2.objs.size))) { s with heap := h2.push (PySem.W.kla_obj "<lambda>" (X.env.qual ++ "<lambda>") params lb sc [(y, d)] pm c' ctv), toks := tk } :=
    J.laid (fun b u z => Heap.get?_push_of_some _ z) (Nat.le_refl _) ⟨at1, _, at1⟩
  have e3 : Ext H' (upd H' h2.objs.size (.frz (PySem.W.kla_obj "<lambda>" (X.env.qual ++ "<lambda>") params lb sc [(y, d)] pm c' ctv) (.own h2.objs.size))) := ext_upd nf
  exact ⟨.ref h2.objs.size, _, J2, rfl, q _ _ ⟨c', pm, ctv, upd_same, hc.mono (Ext.toT e3)⟩ (hT2.ext e3) (e2.ext e3) (fun b o n h => e3 _ _ (b2 b o n h))⟩
end
end L2
namespace Q
open PySem PySem.Spec PyProof.Rows L2
local macro_rules | `(tactic| walk_at "side") => `(tactic| first | exact ⟨by decide, by decide, by decide⟩ | exact Or.inl ⟨by omega, by omega⟩ | exact Or.inr (Or.inl ⟨by omega, by omega⟩) | exact ⟨by omega, by omega⟩ | omega | decide)
local macro_rules | `(tactic| walk_at "hp") => `(tactic| first | assumption | ((refine up (H := ?kH) ?ke ?kf); (case ke => assumption); (case kf => walk_at "hp")))
local macro_rules | `(tactic| walk_at "vs") => `(tactic| first
  | ((with_reducible refine r_var (v := ?kv) ?kh ?_); (case kh => exact rfl))
  | with_reducible refine r_op ?_
  | with_reducible refine r_c ?_
  | with_reducible refine r_seq ?_
  | with_reducible refine r_asg ?_
  | with_reducible refine r_gname ?_
  | with_reducible refine r_if ?_
  | with_reducible refine r_test ?_
  | with_reducible refine r_bl ?_
  | with_reducible refine r_I0 ?_
  | with_reducible refine r_addV ?_
  | with_reducible refine r_addWI ?_
  | with_reducible refine r_leWI ?_
  | with_reducible refine r_leWS ?_
  | ((with_reducible refine r_mulWI ?kc ?_); (case kc => walk_at "side"))
  | with_reducible refine r_pow18 ?_
  | with_reducible refine r_pow6 ?_
  | with_reducible refine r_pow9 ?_
  | with_reducible refine r_powM ?_
  | ((with_reducible refine r_I ?kc ?_); (case kc => walk_at "side"))
  | with_reducible refine r_eqUI ?_
  | with_reducible refine r_neI ?_
  | with_reducible refine r_neUI ?_
  | with_reducible refine r_ret ?_
  | with_reducible refine r_next ?_
  | with_reducible refine r_drop ?_
  | with_reducible refine r_not ?_
  | with_reducible refine r_truth ?_
  | with_reducible refine r_blT ?_
  | with_reducible refine r_and ?_
  | with_reducible refine r_or ?_
  | with_reducible refine r_andV ?_
  | with_reducible refine r_orV ?_
  | with_reducible refine r_notV ?_
  | with_reducible refine r_ifE ?_
  | with_reducible refine r_chain ?_
  | with_reducible refine r_un ?_
  | with_reducible refine r_rU ?_
  | with_reducible refine r_call ?_
  | with_reducible refine r_cb ?_
  | with_reducible refine r_cons ?_
  | with_reducible refine r_nil ?_
  | with_reducible refine r_meth ?_
  | ((with_reducible refine r_self (dx := ?kd) (fs := ?kf) ?kh ?kl ?_); (case kh => walk_at "hp"); (case kl => exact rfl))
  | with_reducible refine r_cmeth ?_
  | with_reducible refine r_cself ?_
  | with_reducible refine r_make ?_
  | with_reducible refine r_fldK ?_
  | ((with_reducible refine r_fat (C := ?kC) (dx := ?kd) (fs := ?kf) (v := ?kv) ?kh ?kc ?kn ?kl ?_); (case kh => walk_at "hp"); (case kc => assumption); (case kn => assumption); (case kl => exact rfl))
  | with_reducible refine r_sfld ?_
  | with_reducible refine r_tup ?_
  | with_reducible refine r_lst ?_
  | ((with_reducible refine r_newT ?kc ?_); (case kc => exact rfl))
  | ((with_reducible refine r_newL ?kc ?_); (case kc => exact rfl))
  | with_reducible refine r_dnew ?_
  | with_reducible refine r_retN ?_
  | with_reducible refine r_for ?_
  | with_reducible refine r_rng1 ?_
  | with_reducible refine r_rng2 ?_
  | with_reducible refine r_by2 ?_
  | with_reducible refine r_zip2 ?_
  | with_reducible refine r_enum ?_
  | with_reducible refine r_enum1 ?_
  | with_reducible refine r_comp ?_
  | with_reducible refine r_tests0 ?_
  | with_reducible refine r_tests1 ?_
  | with_reducible refine r_gsub ?_
  | with_reducible refine r_sl ?_
  | with_reducible refine r_nopart ?_
  | with_reducible refine r_part ?_
  | with_reducible refine r_partI ?_
  | with_reducible refine r_intT ?_
  | with_reducible refine r_ilist ?_
  | with_reducible refine r_itup ?_
  | with_reducible refine r_bm ?_
  | with_reducible refine r_bm0 ?_
  | ((with_reducible refine r_tyl (xs := ?kx) ?kh ?_); (case kh => walk_at "hp"))
  | with_reducible refine r_tm ?_
  | ((with_reducible refine r_tyT (xs := ?kx) ?kh ?_); (case kh => walk_at "hp"))
  | with_reducible refine r_sm ?_
  | with_reducible refine r_dget ?_
  | with_reducible refine r_dput ?_
  | with_reducible refine r_tyS ?_
  | with_reducible refine r_istr ?_
  | with_reducible refine r_gnil ?_
  | with_reducible refine r_gcons ?_
  | ((with_reducible refine r_gtup (xs := ?kx) ?kh ?kl ?_); (case kh => walk_at "hp"); (case kl => exact rfl))
  | with_reducible refine r_max ?_
  | with_reducible refine r_min ?_
  | with_reducible refine r_abs ?_
  | with_reducible refine r_intI ?_
  | with_reducible refine r_intB ?_
  | with_reducible refine r_isN ?_
  | with_reducible refine r_notN ?_
  | with_reducible refine r_try ?_
  | with_reducible refine r_gone ?_
  | with_reducible refine r_efldK ?_
  | with_reducible refine r_terr ?_
  | ((with_reducible refine iteTc ?kh ?_); (case kh => exact rfl))
  | ((with_reducible refine iteFc ?kh ?_); (case kh => exact rfl)))
def top (i : Nat) : Stmt := PySem.Challenge.pw_lateknow_k74_enemy_of_changer.main.body.getD i (.Pass ⟨0, 0, 0, 0⟩)
abbrev s_law : Stmt := top 35
abbrev s_law_same : Stmt := top 28
abbrev s_law_whole : Stmt := top 27
abbrev s_law_all_same : Stmt := top 29
abbrev s_enemy_of_changer : Stmt := top 23
abbrev s_best : Stmt := top 17
abbrev s_traced_rows : Stmt := top 16
abbrev s_reached : Stmt := top 15
abbrev s_Ways_moves : Stmt := inClass (top 19) 4
abbrev s_World_priced : Stmt := inClass (top 10) 4
abbrev s_Ways_price : Stmt := inClass (top 19) 3
abbrev s_wishes_against : Stmt := top 22
abbrev s_Rule_pay : Stmt := inClass (top 11) 5
abbrev s_Changer_learn : Stmt := inClass (top 20) 4
abbrev s_Changer_charged : Stmt := inClass (top 20) 2
abbrev s_Rule_price_to : Stmt := inClass (top 11) 2
abbrev s_Changer_target : Stmt := inClass (top 20) 3
abbrev s_Ways_is_wish : Stmt := inClass (top 19) 2
abbrev s_is_amount : Stmt := top 7
abbrev s_is_whole_number : Stmt := top 6
abbrev s_Rule_state : Stmt := inClass (top 11) 4
abbrev s_Changer_init : Stmt := inClass (top 20) 0
abbrev s_Rule_init : Stmt := inClass (top 11) 0
abbrev s_Ways_is_state : Stmt := inClass (top 19) 1
abbrev s_Ways_init : Stmt := inClass (top 19) 0
abbrev s_is_from_one_to : Stmt := top 8
abbrev s_law_good : Stmt := top 34
abbrev s_law_plan : Stmt := top 33
abbrev s_law_pay : Stmt := top 32
abbrev s_law_is_wish : Stmt := top 31
abbrev s_law_many : Stmt := top 30
abbrev s_law_mixed : Stmt := top 26
abbrev s_law_cell : Stmt := top 25
structure Adr where
  f_law : Addr
  d_law : FuncData
  f_law_same : Addr
  d_law_same : FuncData
  f_law_whole : Addr
  d_law_whole : FuncData
  f_law_all_same : Addr
  d_law_all_same : FuncData
  f_enemy_of_changer : Addr
  d_enemy_of_changer : FuncData
  ck_enemy_of_changer : Addr
  tb_enemy_of_changer : Addr
  f_best : Addr
  d_best : FuncData
  ck_best : Addr
  tb_best : Addr
  f_traced_rows : Addr
  d_traced_rows : FuncData
  f_reached : Addr
  d_reached : FuncData
  f_Ways_moves : Addr
  d_Ways_moves : FuncData
  f_World_priced : Addr
  d_World_priced : FuncData
  f_Ways_price : Addr
  d_Ways_price : FuncData
  f_wishes_against : Addr
  d_wishes_against : FuncData
  f_Rule_pay : Addr
  d_Rule_pay : FuncData
  f_Changer_learn : Addr
  d_Changer_learn : FuncData
  f_Changer_charged : Addr
  d_Changer_charged : FuncData
  f_Rule_price_to : Addr
  d_Rule_price_to : FuncData
  f_Changer_target : Addr
  d_Changer_target : FuncData
  f_Ways_is_wish : Addr
  d_Ways_is_wish : FuncData
  f_is_amount : Addr
  d_is_amount : FuncData
  f_is_whole_number : Addr
  d_is_whole_number : FuncData
  f_Rule_state : Addr
  d_Rule_state : FuncData
  f_Changer_init : Addr
  d_Changer_init : FuncData
  e_Changer_init : List Value
  f_Rule_init : Addr
  d_Rule_init : FuncData
  f_Ways_is_state : Addr
  d_Ways_is_state : FuncData
  f_Ways_init : Addr
  d_Ways_init : FuncData
  f_is_from_one_to : Addr
  d_is_from_one_to : FuncData
  f_law_good : Addr
  d_law_good : FuncData
  f_law_plan : Addr
  d_law_plan : FuncData
  f_law_pay : Addr
  d_law_pay : FuncData
  f_law_is_wish : Addr
  d_law_is_wish : FuncData
  f_law_many : Addr
  d_law_many : FuncData
  f_law_mixed : Addr
  d_law_mixed : FuncData
  f_law_cell : Addr
  d_law_cell : FuncData
  c_World : Addr
  c_Rule : Addr
  c_Bound : Addr
  c_Ways : Addr
  c_Changer : Addr
  t_MOST_STATES : Tok
structure Txt (K : PySem.W.Frag) (mg : Str → Option Value) (a : Adr) : Prop where
  F_law : Fun K "law" "law" s_law a.f_law a.d_law
  b_law : Binds K a.d_law ["_law_script"] []
  m_law : mg "law" = some (.ref a.f_law)
  F_law_same : Fun K "_law_same" "_law_same" s_law_same a.f_law_same a.d_law_same
  b_law_same : Binds K a.d_law_same ["_law_found", "_law_due"] []
  m_law_same : mg "_law_same" = some (.ref a.f_law_same)
  F_law_whole : Fun K "_law_whole" "_law_whole" s_law_whole a.f_law_whole a.d_law_whole
  b_law_whole : Binds K a.d_law_whole ["_law_found"] []
  m_law_whole : mg "_law_whole" = some (.ref a.f_law_whole)
  F_law_all_same : Fun K "_law_all_same" "_law_all_same" s_law_all_same a.f_law_all_same a.d_law_all_same
  b_law_all_same : Binds K a.d_law_all_same ["_law_found", "_law_due"] []
  m_law_all_same : mg "_law_all_same" = some (.ref a.f_law_all_same)
  F_enemy_of_changer : Fun K "enemy_of_changer" "enemy_of_changer" s_enemy_of_changer a.f_enemy_of_changer a.d_enemy_of_changer
  b_enemy_of_changer : Binds K a.d_enemy_of_changer ["n", "toll", "many"] []
  m_enemy_of_changer : mg "enemy_of_changer" = some (.ref a.f_enemy_of_changer)
  ck_enemy_of_changer : a.d_enemy_of_changer.code = .ref a.ck_enemy_of_changer
  hd_enemy_of_changer : PySem.W.codeHdIn K a.ck_enemy_of_changer a.tb_enemy_of_changer = true
  F_best : Fun K "best" "best" s_best a.f_best a.d_best
  b_best : Binds K a.d_best ["world", "start", "wishes"] []
  nt_best_enemy_of_changer : a.tb_best ≠ a.tb_enemy_of_changer
  m_best : mg "best" = some (.ref a.f_best)
  ck_best : a.d_best.code = .ref a.ck_best
  hd_best : PySem.W.codeHdIn K a.ck_best a.tb_best = true
  F_traced_rows : Fun K "traced_rows" "traced_rows" s_traced_rows a.f_traced_rows a.d_traced_rows
  b_traced_rows : Binds K a.d_traced_rows ["world", "start", "wishes"] []
  m_traced_rows : mg "traced_rows" = some (.ref a.f_traced_rows)
  F_reached : Fun K "reached" "reached" s_reached a.f_reached a.d_reached
  b_reached : Binds K a.d_reached ["world", "row", "wish"] []
  m_reached : mg "reached" = some (.ref a.f_reached)
  F_Ways_moves : Fun K "moves" "Ways.moves" s_Ways_moves a.f_Ways_moves a.d_Ways_moves
  b_Ways_moves : Binds K a.d_Ways_moves ["self", "before", "wish"] []
  F_World_priced : Fun K "priced" "World.priced" s_World_priced a.f_World_priced a.d_World_priced
  b_World_priced : Binds K a.d_World_priced ["self", "before", "wish", "states"] []
  F_Ways_price : Fun K "price" "Ways.price" s_Ways_price a.f_Ways_price a.d_Ways_price
  b_Ways_price : Binds K a.d_Ways_price ["self", "before", "wish", "after"] []
  F_wishes_against : Fun K "wishes_against" "wishes_against" s_wishes_against a.f_wishes_against a.d_wishes_against
  b_wishes_against : Binds K a.d_wishes_against ["rule", "many", "worst"] []
  m_wishes_against : mg "wishes_against" = some (.ref a.f_wishes_against)
  F_Rule_pay : Fun K "pay" "Rule.pay" s_Rule_pay a.f_Rule_pay a.d_Rule_pay
  b_Rule_pay : Binds K a.d_Rule_pay ["self", "wish"] []
  F_Changer_learn : Fun K "learn" "Changer.learn" s_Changer_learn a.f_Changer_learn a.d_Changer_learn
  b_Changer_learn : Binds K a.d_Changer_learn ["self", "wish"] []
  F_Changer_charged : Fun K "charged" "Changer.charged" s_Changer_charged a.f_Changer_charged a.d_Changer_charged
  b_Changer_charged : Binds K a.d_Changer_charged ["self", "charges"] []
  F_Rule_price_to : Fun K "price_to" "Rule.price_to" s_Rule_price_to a.f_Rule_price_to a.d_Rule_price_to
  b_Rule_price_to : Binds K a.d_Rule_price_to ["self", "wish", "after"] []
  F_Changer_target : Fun K "target" "Changer.target" s_Changer_target a.f_Changer_target a.d_Changer_target
  b_Changer_target : Binds K a.d_Changer_target ["self", "wish"] []
  F_Ways_is_wish : Fun K "is_wish" "Ways.is_wish" s_Ways_is_wish a.f_Ways_is_wish a.d_Ways_is_wish
  b_Ways_is_wish : Binds K a.d_Ways_is_wish ["self", "thing"] []
  F_is_amount : Fun K "is_amount" "is_amount" s_is_amount a.f_is_amount a.d_is_amount
  b_is_amount : Binds K a.d_is_amount ["thing"] []
  m_is_amount : mg "is_amount" = some (.ref a.f_is_amount)
  F_is_whole_number : Fun K "is_whole_number" "is_whole_number" s_is_whole_number a.f_is_whole_number a.d_is_whole_number
  b_is_whole_number : Binds K a.d_is_whole_number ["thing"] []
  m_is_whole_number : mg "is_whole_number" = some (.ref a.f_is_whole_number)
  F_Rule_state : Fun K "state" "Rule.state" s_Rule_state a.f_Rule_state a.d_Rule_state
  b_Rule_state : Binds K a.d_Rule_state ["self"] []
  F_Changer_init : FunD K "__init__" "Changer.__init__" s_Changer_init a.f_Changer_init a.d_Changer_init a.e_Changer_init
  b_Changer_init : Binds K a.d_Changer_init ["self", "many", "toll", "start"] []
  b1_Changer_init : Binds K a.d_Changer_init ["self", "many", "toll", "start"] a.e_Changer_init
  w_Changer_init : Vals [.int 0] a.e_Changer_init
  F_Rule_init : Fun K "__init__" "Rule.__init__" s_Rule_init a.f_Rule_init a.d_Rule_init
  b_Rule_init : Binds K a.d_Rule_init ["self", "world", "start"] []
  F_Ways_is_state : Fun K "is_state" "Ways.is_state" s_Ways_is_state a.f_Ways_is_state a.d_Ways_is_state
  b_Ways_is_state : Binds K a.d_Ways_is_state ["self", "thing"] []
  F_Ways_init : Fun K "__init__" "Ways.__init__" s_Ways_init a.f_Ways_init a.d_Ways_init
  b_Ways_init : Binds K a.d_Ways_init ["self", "many", "toll"] []
  F_is_from_one_to : Fun K "is_from_one_to" "is_from_one_to" s_is_from_one_to a.f_is_from_one_to a.d_is_from_one_to
  b_is_from_one_to : Binds K a.d_is_from_one_to ["thing", "most"] []
  m_is_from_one_to : mg "is_from_one_to" = some (.ref a.f_is_from_one_to)
  F_law_good : Fun K "_law_good" "_law_good" s_law_good a.f_law_good a.d_law_good
  b_law_good : Binds K a.d_law_good ["_law_found", "_law_n", "_law_toll", "_law_many_here"] []
  m_law_good : mg "_law_good" = some (.ref a.f_law_good)
  F_law_plan : Fun K "_law_plan" "_law_plan" s_law_plan a.f_law_plan a.d_law_plan
  b_law_plan : Binds K a.d_law_plan ["_law_n", "_law_toll", "_law_wishes", "_law_way"] []
  m_law_plan : mg "_law_plan" = some (.ref a.f_law_plan)
  F_law_pay : Fun K "_law_pay" "_law_pay" s_law_pay a.f_law_pay a.d_law_pay
  b_law_pay : Binds K a.d_law_pay ["_law_n", "_law_toll", "_law_wishes"] []
  m_law_pay : mg "_law_pay" = some (.ref a.f_law_pay)
  F_law_is_wish : Fun K "_law_is_wish" "_law_is_wish" s_law_is_wish a.f_law_is_wish a.d_law_is_wish
  b_law_is_wish : Binds K a.d_law_is_wish ["_law_wish", "_law_many_here"] []
  m_law_is_wish : mg "_law_is_wish" = some (.ref a.f_law_is_wish)
  F_law_many : Fun K "_law_many" "_law_many" s_law_many a.f_law_many a.d_law_many
  b_law_many : Binds K a.d_law_many ["_law_cell_here"] []
  m_law_many : mg "_law_many" = some (.ref a.f_law_many)
  F_law_mixed : Fun K "_law_mixed" "_law_mixed" s_law_mixed a.f_law_mixed a.d_law_mixed
  b_law_mixed : Binds K a.d_law_mixed ["_law_cell_here", "_law_k"] []
  m_law_mixed : mg "_law_mixed" = some (.ref a.f_law_mixed)
  F_law_cell : Fun K "_law_cell" "_law_cell" s_law_cell a.f_law_cell a.d_law_cell
  b_law_cell : Binds K a.d_law_cell ["_law_script", "_law_k"] []
  m_law_cell : mg "_law_cell" = some (.ref a.f_law_cell)
  m_Bound : mg "Bound" = some (.ref a.c_Bound)
  cm_Bound_init : CMeth K a.c_Bound "__init__" a.f_Rule_init
  m_Ways : mg "Ways" = some (.ref a.c_Ways)
  cl_Ways : Cls K a.c_Ways
  mk_Ways : Mk K a.c_Ways a.f_Ways_init
  na_Ways_many : NoAttr K a.c_Ways "many"
  na_Ways_toll : NoAttr K a.c_Ways "toll"
  me_Ways_is_state : Meth K a.c_Ways "is_state" a.f_Ways_is_state
  me_Ways_is_wish : Meth K a.c_Ways "is_wish" a.f_Ways_is_wish
  me_Ways_moves : Meth K a.c_Ways "moves" a.f_Ways_moves
  me_Ways_price : Meth K a.c_Ways "price" a.f_Ways_price
  me_Ways_priced : Meth K a.c_Ways "priced" a.f_World_priced
  m_Changer : mg "Changer" = some (.ref a.c_Changer)
  cl_Changer : Cls K a.c_Changer
  mk_Changer : Mk K a.c_Changer a.f_Changer_init
  na_Changer_reckoned : NoAttr K a.c_Changer "reckoned"
  na_Changer_spent : NoAttr K a.c_Changer "spent"
  na_Changer_standing : NoAttr K a.c_Changer "standing"
  na_Changer_world : NoAttr K a.c_Changer "world"
  me_Changer_charged : Meth K a.c_Changer "charged" a.f_Changer_charged
  me_Changer_learn : Meth K a.c_Changer "learn" a.f_Changer_learn
  me_Changer_pay : Meth K a.c_Changer "pay" a.f_Rule_pay
  me_Changer_price_to : Meth K a.c_Changer "price_to" a.f_Rule_price_to
  me_Changer_state : Meth K a.c_Changer "state" a.f_Rule_state
  me_Changer_target : Meth K a.c_Changer "target" a.f_Changer_target
  n_all : mg "all" = none
  n_bool : mg "bool" = none
  n_int : mg "int" = none
  n_isinstance : mg "isinstance" = none
  n_len : mg "len" = none
  n_list : mg "list" = none
  n_min : mg "min" = none
  n_range : mg "range" = none
  n_reversed : mg "reversed" = none
  n_set : mg "set" = none
  n_sorted : mg "sorted" = none
  n_str : mg "str" = none
  n_tuple : mg "tuple" = none
  n_zip : mg "zip" = none
  m_MOST_STATES : mg "MOST_STATES" = some (.int 60 a.t_MOST_STATES)
section
variable {P : Program} {w : World} {K : PySem.W.Frag} {mg : Str → Option Value} {base : Heap} {a : Adr}
seal PA PE PS PSs PT
theorem sc_law : FnScope ["_law_script", "_law_n", "_law_number", "_law_toll", "_law_many_here", "_law_found", "_law_held"] ["_law_script"] (defScope s_law) := ⟨rfl, rfl, rfl, by decide +kernel, rfl, by decide +kernel, by decide +kernel⟩
theorem sc_law_same : FnScope ["_law_found", "_law_due"] ["_law_found", "_law_due"] (defScope s_law_same) := ⟨rfl, rfl, rfl, by decide +kernel, rfl, by decide +kernel, by decide +kernel⟩
theorem sc_law_whole : FnScope ["_law_found"] ["_law_found"] (defScope s_law_whole) := ⟨rfl, rfl, rfl, by decide +kernel, rfl, by decide +kernel, by decide +kernel⟩
theorem sc_law_all_same : FnScope ["_law_found", "_law_due", "_law_one", "_law_other"] ["_law_found", "_law_due"] (defScope s_law_all_same) := ⟨rfl, rfl, rfl, by decide +kernel, rfl, by decide +kernel, by decide +kernel⟩
theorem sc_enemy_of_changer : FnScope ["n", "toll", "many", "rule", "wishes"] ["n", "toll", "many"] (defScope s_enemy_of_changer) := ⟨rfl, rfl, rfl, by decide +kernel, rfl, by decide +kernel, by decide +kernel⟩
theorem sc_best : FnScope ["world", "start", "wishes", "rows", "last", "state", "least", "way", "row"] ["world", "start", "wishes"] (defScope s_best) := ⟨rfl, rfl, rfl, by decide +kernel, rfl, by decide +kernel, by decide +kernel⟩
theorem sc_traced_rows : FnScope ["world", "start", "wishes", "rows", "wish"] ["world", "start", "wishes"] (defScope s_traced_rows) := ⟨rfl, rfl, rfl, by decide +kernel, rfl, by decide +kernel, by decide +kernel⟩
theorem sc_reached : FnScope ["world", "row", "wish", "found", "before", "paid", "after", "price"] ["world", "row", "wish"] (defScope s_reached) := ⟨rfl, rfl, rfl, by decide +kernel, rfl, by decide +kernel, by decide +kernel⟩
theorem sc_Ways_moves : FnScope ["self", "before", "wish"] ["self", "before", "wish"] (defScope s_Ways_moves) := ⟨rfl, rfl, rfl, by decide +kernel, rfl, by decide +kernel, by decide +kernel⟩
theorem sc_World_priced : FnScope ["self", "before", "wish", "states", "pairs"] ["self", "before", "wish", "states"] (defScope s_World_priced) := ⟨rfl, rfl, rfl, by decide +kernel, rfl, by decide +kernel, by decide +kernel⟩
theorem sc_Ways_price : FnScope ["self", "before", "wish", "after"] ["self", "before", "wish", "after"] (defScope s_Ways_price) := ⟨rfl, rfl, rfl, by decide +kernel, rfl, by decide +kernel, by decide +kernel⟩
theorem sc_wishes_against : FnScope ["rule", "many", "worst", "wishes", "turn", "wish"] ["rule", "many", "worst"] (defScope s_wishes_against) := ⟨rfl, rfl, rfl, by decide +kernel, rfl, by decide +kernel, by decide +kernel⟩
theorem sc_Rule_pay : FnScope ["self", "wish", "after", "cost"] ["self", "wish"] (defScope s_Rule_pay) := ⟨rfl, rfl, rfl, by decide +kernel, rfl, by decide +kernel, by decide +kernel⟩
theorem sc_Changer_learn : FnScope ["self", "wish", "fresh", "far"] ["self", "wish"] (defScope s_Changer_learn) := ⟨rfl, rfl, rfl, by decide +kernel, rfl, by decide +kernel, by decide +kernel⟩
theorem sc_Changer_charged : FnScope ["self", "charges"] ["self", "charges"] (defScope s_Changer_charged) := ⟨rfl, rfl, rfl, by decide +kernel, rfl, by decide +kernel, by decide +kernel⟩
theorem sc_Rule_price_to : FnScope ["self", "wish", "after"] ["self", "wish", "after"] (defScope s_Rule_price_to) := ⟨rfl, rfl, rfl, by decide +kernel, rfl, by decide +kernel, by decide +kernel⟩
theorem sc_Changer_target : FnScope ["self", "wish", "fresh", "least"] ["self", "wish"] (defScope s_Changer_target) := ⟨rfl, rfl, rfl, by decide +kernel, rfl, by decide +kernel, by decide +kernel⟩
theorem sc_Ways_is_wish : FnScope ["self", "thing"] ["self", "thing"] (defScope s_Ways_is_wish) := ⟨rfl, rfl, rfl, by decide +kernel, rfl, by decide +kernel, by decide +kernel⟩
theorem sc_is_amount : FnScope ["thing"] ["thing"] (defScope s_is_amount) := ⟨rfl, rfl, rfl, by decide +kernel, rfl, by decide +kernel, by decide +kernel⟩
theorem sc_is_whole_number : FnScope ["thing"] ["thing"] (defScope s_is_whole_number) := ⟨rfl, rfl, rfl, by decide +kernel, rfl, by decide +kernel, by decide +kernel⟩
theorem sc_Rule_state : FnScope ["self"] ["self"] (defScope s_Rule_state) := ⟨rfl, rfl, rfl, by decide +kernel, rfl, by decide +kernel, by decide +kernel⟩
theorem sc_Changer_init : FnScope ["self", "many", "toll", "start"] ["self", "many", "toll", "start"] (defScope s_Changer_init) := ⟨rfl, rfl, rfl, by decide +kernel, rfl, by decide +kernel, by decide +kernel⟩
theorem sc_Rule_init : FnScope ["self", "world", "start"] ["self", "world", "start"] (defScope s_Rule_init) := ⟨rfl, rfl, rfl, by decide +kernel, rfl, by decide +kernel, by decide +kernel⟩
theorem sc_Ways_is_state : FnScope ["self", "thing"] ["self", "thing"] (defScope s_Ways_is_state) := ⟨rfl, rfl, rfl, by decide +kernel, rfl, by decide +kernel, by decide +kernel⟩
theorem sc_Ways_init : FnScope ["self", "many", "toll"] ["self", "many", "toll"] (defScope s_Ways_init) := ⟨rfl, rfl, rfl, by decide +kernel, rfl, by decide +kernel, by decide +kernel⟩
theorem sc_is_from_one_to : FnScope ["thing", "most"] ["thing", "most"] (defScope s_is_from_one_to) := ⟨rfl, rfl, rfl, by decide +kernel, rfl, by decide +kernel, by decide +kernel⟩
theorem sc_law_good : FnScope ["_law_found", "_law_n", "_law_toll", "_law_many_here", "_law_wish", "_law_pay_here", "_law_plan_here"] ["_law_found", "_law_n", "_law_toll", "_law_many_here"] (defScope s_law_good) := ⟨rfl, rfl, rfl, by decide +kernel, rfl, by decide +kernel, by decide +kernel⟩
theorem sc_law_plan : FnScope ["_law_n", "_law_toll", "_law_wishes", "_law_way", "_law_here", "_law_paid", "_law_wish", "_law_after"] ["_law_n", "_law_toll", "_law_wishes", "_law_way"] (defScope s_law_plan) := ⟨rfl, rfl, rfl, by decide +kernel, rfl, by decide +kernel, by decide +kernel⟩
theorem sc_law_pay : FnScope ["_law_n", "_law_toll", "_law_wishes", "_law_known", "_law_here", "_law_paid", "_law_wish", "_law_fresh", "_law_least"] ["_law_n", "_law_toll", "_law_wishes"] (defScope s_law_pay) := ⟨rfl, rfl, rfl, by decide +kernel, rfl, by decide +kernel, by decide +kernel⟩
theorem sc_law_is_wish : FnScope ["_law_wish", "_law_many_here"] ["_law_wish", "_law_many_here"] (defScope s_law_is_wish) := ⟨rfl, rfl, rfl, by decide +kernel, rfl, by decide +kernel, by decide +kernel⟩
theorem sc_law_many : FnScope ["_law_cell_here", "_law_number"] ["_law_cell_here"] (defScope s_law_many) := ⟨rfl, rfl, rfl, by decide +kernel, rfl, by decide +kernel, by decide +kernel⟩
theorem sc_law_mixed : FnScope ["_law_cell_here", "_law_k", "_law_number"] ["_law_cell_here", "_law_k"] (defScope s_law_mixed) := ⟨rfl, rfl, rfl, by decide +kernel, rfl, by decide +kernel, by decide +kernel⟩
theorem sc_law_cell : FnScope ["_law_script", "_law_k"] ["_law_script", "_law_k"] (defScope s_law_cell) := ⟨rfl, rfl, rfl, by decide +kernel, rfl, by decide +kernel, by decide +kernel⟩
def lp_best : Pos := ⟨100, 34, 100, 60⟩
def lq_best : Str := ("best" ++ ".<locals>.") ++ "<lambda>"
def lp_enemy_of_changer : Pos := ⟨171, 40, 171, 111⟩
def lq_enemy_of_changer : Str := ("enemy_of_changer" ++ ".<locals>.") ++ "<lambda>"
def le_enemy_of_changer : Expr := callArg 2 (stVal ((defBody s_enemy_of_changer).getD 1 (.Pass ⟨0, 0, 0, 0⟩)))
section
variable {S : Type} [DecidableEq S]
def lastL {α : Type} (d : α) (l : List α) : α := l.foldl (fun _ x => x) d
theorem lastL_snoc {α : Type} (d x : α) (l : List α) : lastL d (l ++ [x]) = x := by unfold lastL; rw [List.foldl_append]; rfl
abbrev Row (S : Type) := List (S × Int × Option S)
def getR (r : Row S) (s : S) : Option (Int × Option S) := (r.find? fun e => decide (e.1 = s)).map (·.2)
def putR (r : Row S) (s : S) (x : Int × Option S) : Row S := if (r.any fun e => decide (e.1 = s)) = true then r.map fun e => if e.1 = s then (e.1, x) else e else r ++ [(s, x)]
def stepR (p : Int) (b : S) (acc : Row S) (m : S × Int) : Row S :=
  match getR acc m.1 with
  | none => putR acc m.1 (p + m.2, some b)
  | some y => if p + m.2 < y.1 then putR acc m.1 (p + m.2, some b) else acc
theorem stepR_new {p : Int} {b : S} {acc : Row S} {m : S × Int} (h : getR acc m.1 = none) : stepR p b acc m = putR acc m.1 (p + m.2, some b) := by unfold stepR; rw [h]
theorem stepR_less {p : Int} {b : S} {acc : Row S} {m : S × Int} {y : Int × Option S} (h : getR acc m.1 = some y) (c : p + m.2 < y.1) : stepR p b acc m = putR acc m.1 (p + m.2, some b) := by unfold stepR; rw [h]; exact if_pos c
theorem stepR_keep {p : Int} {b : S} {acc : Row S} {m : S × Int} {y : Int × Option S} (h : getR acc m.1 = some y) (c : ¬ p + m.2 < y.1) : stepR p b acc m = acc := by unfold stepR; rw [h]; exact if_neg c
def overR (mv : S → List (S × Int)) (acc : Row S) (e : S × Int × Option S) : Row S := (mv e.1).foldl (stepR e.2.1 e.1) acc
def reachR (mv : S → List (S × Int)) (r : Row S) : Row S := r.foldl (overR mv) []
theorem getR_pos {e : S × Int × Option S} {r : Row S} {s : S} (h : e.1 = s) : getR (e :: r) s = some e.2 := by simp [getR, List.find?_cons, h]
theorem getR_neg {e : S × Int × Option S} {r : Row S} {s : S} (h : ¬ e.1 = s) : getR (e :: r) s = getR r s := by simp [getR, List.find?_cons, h]
theorem getR_mem {r : Row S} {s : S} {x : Int × Option S} (h : getR r s = some x) : (s, x) ∈ r := by
  induction r with
  | nil => cases h
  | cons e r ih =>
    by_cases q : e.1 = s
    · rw [getR_pos q] at h
      cases h
      rw [← q]
      exact List.mem_cons_self
    · rw [getR_neg q] at h
      exact List.mem_cons_of_mem _ (ih h)
theorem getR_any (s : S) : ∀ r : Row S, (r.any fun e => decide (e.1 = s)) = (getR r s).isSome
  | [] => rfl
  | e :: r => by
    rw [List.any_cons, getR_any s r]
    by_cases q : e.1 = s
    · rw [getR_pos q, decide_eq_true q]; rfl
    · rw [getR_neg q, decide_eq_false q, Bool.false_or]
theorem getR_of {r : Row S} (nd : (r.map (·.1)).Nodup) {e : S × Int × Option S} (h : e ∈ r) : getR r e.1 = some e.2 := by
  induction r with
  | nil => cases h
  | cons f r ih =>
    rw [List.map_cons, List.nodup_cons] at nd
    rcases List.mem_cons.mp h with rfl | h
    · exact getR_pos rfl
    · rw [getR_neg (fun z => nd.1 (z ▸ List.mem_map.mpr ⟨e, h, rfl⟩))]
      exact ih nd.2 h
theorem getR_map (s t : S) (x : Int × Option S) : ∀ r : Row S, getR (r.map fun e => if e.1 = s then (e.1, x) else e) t = (getR r t).map fun y => if t = s then x else y
  | [] => rfl
  | e :: r => by
    rw [List.map_cons]
    by_cases q : e.1 = t
    · rw [getR_pos (e := if e.1 = s then (e.1, x) else e) (by split <;> exact q), getR_pos q]
      by_cases z : e.1 = s
      · rw [if_pos z, Option.map_some, if_pos (q.symm.trans z)]
      · rw [if_neg z, Option.map_some, if_neg (fun w => z (q.trans w))]
    · rw [getR_neg (e := if e.1 = s then (e.1, x) else e) (by split <;> exact q), getR_neg q]
      exact getR_map s t x r
theorem getR_snoc (s t : S) (x : Int × Option S) : ∀ r : Row S, getR r s = none → getR (r ++ [(s, x)]) t = if t = s then some x else getR r t
  | [], _ => by
    by_cases q : t = s
    · rw [if_pos q]; exact getR_pos q.symm
    · rw [if_neg q]; exact getR_neg (fun z => q z.symm)
  | e :: r, h => by
    have ne : ¬ e.1 = s := fun z => by rw [getR_pos z] at h; cases h
    rw [getR_neg ne] at h
    rw [List.cons_append]
    by_cases q : e.1 = t
    · rw [getR_pos q, getR_pos q, if_neg (fun z => ne (q.trans z))]
    · rw [getR_neg q, getR_neg q]
      exact getR_snoc s t x r h
theorem getR_put (r : Row S) (s t : S) (x : Int × Option S) : getR (putR r s x) t = if t = s then some x else getR r t := by
  unfold putR
  rw [getR_any]
  cases h : getR r s with
  | none =>
    rw [if_neg (by simp)]
    exact getR_snoc s t x r h
  | some y =>
    rw [if_pos (by simp), getR_map]
    by_cases q : t = s
    · rw [if_pos q, q, h, Option.map_some, if_pos rfl]
    · rw [if_neg q]
      cases getR r t with
      | none => rfl
      | some y => rw [Option.map_some, if_neg q]
theorem putR_keys (r : Row S) (s : S) (x : Int × Option S) : ((putR r s x).map (·.1)) = if (getR r s).isSome = true then r.map (·.1) else r.map (·.1) ++ [s] := by
  unfold putR
  rw [getR_any]
  split
  · rw [List.map_map]
    refine List.map_congr_left fun e _ => ?_
    show (if e.1 = s then (e.1, x) else e).1 = e.1
    split <;> rfl
  · rw [List.map_append]; rfl
theorem getR_none {r : Row S} {s : S} (h : getR r s = none) : s ∉ r.map (·.1) := fun q => by
  obtain ⟨e, he, rfl⟩ := List.mem_map.mp q
  have := getR_any e.1 r
  rw [h] at this
  have z : (r.any fun f => decide (f.1 = e.1)) = true := List.any_eq_true.mpr ⟨e, he, by simp⟩
  rw [this] at z
  cases z
theorem getR_some {r : Row S} {s : S} (h : s ∈ r.map (·.1)) : ∃ x, getR r s = some x := by
  cases q : getR r s with
  | none => exact absurd h (getR_none q)
  | some x => exact ⟨x, rfl⟩
theorem putR_nodup {r : Row S} {s : S} {x : Int × Option S} (nd : (r.map (·.1)).Nodup) : ((putR r s x).map (·.1)).Nodup := by
  rw [putR_keys]
  split
  · exact nd
  · rename_i h
    refine List.nodup_append.mpr ⟨nd, List.nodup_cons.mpr ⟨by simp, List.nodup_nil⟩, fun a ha b hb => ?_⟩
    rw [List.mem_singleton.mp hb]
    intro z
    rw [z] at ha
    exact getR_none (by simpa using h) ha
theorem putR_sub {r : Row S} {s t : S} {x : Int × Option S} (h : t ∈ (putR r s x).map (·.1)) : t = s ∨ t ∈ r.map (·.1) := by
  rw [putR_keys] at h
  split at h
  · exact .inr h
  · rcases List.mem_append.mp h with h | h
    · exact .inr h
    · exact .inl (List.mem_singleton.mp h)
structure MadeR (mv : S → List (S × Int)) (r : Row S) (done : List (S × Int × Option S)) (acc : Row S) : Prop where
  nd : (acc.map (·.1)).Nodup
  of : ∀ s x, getR acc s = some x → ∃ e m, e ∈ r ∧ m ∈ mv e.1 ∧ m.1 = s ∧ x = (e.2.1 + m.2, some e.1)
  met : ∀ e ∈ done, ∀ m ∈ mv e.1, ∃ x, getR acc m.1 = some x ∧ x.1 ≤ e.2.1 + m.2
theorem stepR_get {p : Int} {b : S} {acc : Row S} {m : S × Int} : (∀ t, t ≠ m.1 → getR (stepR p b acc m) t = getR acc t) ∧ (∃ x, getR (stepR p b acc m) m.1 = some x ∧ x.1 ≤ p + m.2 ∧ (∀ y, getR acc m.1 = some y → x.1 ≤ y.1) ∧ (getR acc m.1 = some x ∨ x = (p + m.2, some b))) ∧ ((acc.map (·.1)).Nodup → ((stepR p b acc m).map (·.1)).Nodup) := by
  unfold stepR
  cases h : getR acc m.1 with
  | none =>
    dsimp only
    refine ⟨fun t ht => by rw [getR_put, if_neg ht], ⟨_, by rw [getR_put, if_pos rfl], Int.le_refl _, fun y hy => (by cases hy), .inr rfl⟩, putR_nodup⟩
  | some y =>
    dsimp only
    split
    · rename_i c
      refine ⟨fun t ht => by rw [getR_put, if_neg ht], ⟨_, by rw [getR_put, if_pos rfl], Int.le_refl _, fun z hz => (by cases hz; show p + m.2 ≤ y.1; omega), .inr rfl⟩, putR_nodup⟩
    · rename_i c
      exact ⟨fun t _ => rfl, ⟨y, h, by omega, fun z hz => (by cases hz; exact Int.le_refl _), .inl rfl⟩, id⟩
theorem over_made {mv : S → List (S × Int)} {r : Row S} {e : S × Int × Option S} (he : e ∈ r) : ∀ (ms : List (S × Int)), (∀ m ∈ ms, m ∈ mv e.1) → ∀ {done : List (S × Int × Option S)} {acc : Row S}, MadeR mv r done acc →
    MadeR mv r done (ms.foldl (stepR e.2.1 e.1) acc) ∧ ∀ m ∈ ms, ∃ x, getR (ms.foldl (stepR e.2.1 e.1) acc) m.1 = some x ∧ x.1 ≤ e.2.1 + m.2
  | [], _, done, acc, h => ⟨h, fun m hm => by cases hm⟩
  | m :: ms, hm, done, acc, h => by
    obtain ⟨g1, ⟨x, g2, g3, g4, g5⟩, g6⟩ := stepR_get (p := e.2.1) (b := e.1) (acc := acc) (m := m)
    have mono : ∀ t y, getR acc t = some y → ∃ z, getR (stepR e.2.1 e.1 acc m) t = some z ∧ z.1 ≤ y.1 := fun t y hy => by
      by_cases q : t = m.1
      · subst q; exact ⟨x, g2, g4 y hy⟩
      · exact ⟨y, by rw [g1 t q]; exact hy, Int.le_refl _⟩
    have h1 : MadeR mv r done (stepR e.2.1 e.1 acc m) := by
      refine ⟨g6 h.nd, fun s y hy => ?_, fun f hf k hk => ?_⟩
      · by_cases q : s = m.1
        · subst q
          rw [g2] at hy
          cases hy
          rcases g5 with g5 | g5
          · exact h.of _ _ g5
          · exact ⟨e, m, he, hm m List.mem_cons_self, rfl, g5⟩
        · rw [g1 s q] at hy
          exact h.of _ _ hy
      · obtain ⟨y, y1, y2⟩ := h.met f hf k hk
        obtain ⟨z, z1, z2⟩ := mono _ _ y1
        exact ⟨z, z1, by omega⟩
    obtain ⟨h2, h3⟩ := over_made he ms (fun k hk => hm k (List.mem_cons_of_mem _ hk)) h1
    refine ⟨h2, fun k hk => ?_⟩
    rcases List.mem_cons.mp hk with rfl | hk
    · have : MadeR (fun s => if s = e.1 then [k] else []) [e] [e] (stepR e.2.1 e.1 acc k) → True := fun _ => trivial
      have keep : ∀ (ks : List (S × Int)) (a : Row S) (t : S) (y : Int × Option S), getR a t = some y → ∃ z, getR (ks.foldl (stepR e.2.1 e.1) a) t = some z ∧ z.1 ≤ y.1 := by
        intro ks
        induction ks with
        | nil => intro a t y hy; exact ⟨y, hy, Int.le_refl _⟩
        | cons k' ks ih =>
          intro a t y hy
          obtain ⟨k1, ⟨x', k2, k3, k4, k5⟩, _⟩ := stepR_get (p := e.2.1) (b := e.1) (acc := a) (m := k')
          obtain ⟨z, z1, z2⟩ : ∃ z, getR (stepR e.2.1 e.1 a k') t = some z ∧ z.1 ≤ y.1 := by
            by_cases q : t = k'.1
            · subst q; exact ⟨x', k2, k4 y hy⟩
            · exact ⟨y, by rw [k1 t q]; exact hy, Int.le_refl _⟩
          obtain ⟨w, w1, w2⟩ := ih _ t z z1
          exact ⟨w, w1, by omega⟩
      obtain ⟨z, z1, z2⟩ := keep ms _ _ x g2
      exact ⟨z, z1, by omega⟩
    · exact h3 k hk
theorem reach_made (mv : S → List (S × Int)) (r : Row S) : ∀ (es done : List (S × Int × Option S)) (acc : Row S), (∀ e ∈ es, e ∈ r) → MadeR mv r done acc → MadeR mv r (done ++ es) (es.foldl (overR mv) acc)
  | [], done, acc, _, h => by rw [List.append_nil]; exact h
  | e :: es, done, acc, hr, h => by
    obtain ⟨h1, h2⟩ := over_made (hr e List.mem_cons_self) (mv e.1) (fun m hm => hm) h
    have h3 : MadeR mv r (done ++ [e]) (overR mv acc e) := ⟨h1.nd, h1.of, fun f hf k hk => by
      rcases List.mem_append.mp hf with hf | hf
      · exact h1.met f hf k hk
      · rw [List.mem_singleton.mp hf] at hk ⊢
        exact h2 k hk⟩
    have := reach_made mv r es (done ++ [e]) (overR mv acc e) (fun f hf => hr f (List.mem_cons_of_mem _ hf)) h3
    rwa [List.append_assoc] at this
theorem reachR_made (mv : S → List (S × Int)) (r : Row S) : MadeR mv r r (reachR mv r) := by
  have := reach_made mv r r [] [] (fun e h => h) ⟨List.nodup_nil, fun s x h => (by cases h), fun e h => (by cases h)⟩
  rwa [List.nil_append] at this
def allR (r : Row S) : List (S → List (S × Int)) → List (Row S)
  | [] => [r]
  | mv :: mvs => r :: allR (reachR mv r) mvs
theorem allR_len (mvs : List (S → List (S × Int))) : ∀ r, (allR r mvs).length = mvs.length + 1 := by
  induction mvs with
  | nil => intro r; rfl
  | cons mv mvs ih => intro r; show (allR _ mvs).length + 1 = _; rw [ih]; rfl
theorem allR_snoc (mvs : List (S → List (S × Int))) (mv : S → List (S × Int)) : ∀ r, allR r (mvs ++ [mv]) = allR r mvs ++ [reachR mv (lastL r (allR r mvs))] := by
  induction mvs with
  | nil => intro r; rfl
  | cons m mvs ih =>
    intro r
    show r :: allR (reachR m r) (mvs ++ [mv]) = (r :: allR (reachR m r) mvs) ++ _
    rw [ih, List.cons_append]
    cases h : allR (reachR m r) mvs with
    | nil => have := allR_len mvs (reachR m r); rw [h] at this; simp at this
    | cons x l =>
      have : allR r (m :: mvs) = r :: x :: l := by show r :: allR (reachR m r) mvs = _; rw [h]
      rw [this]
      rfl
inductive WayR : S → List (S → List (S × Int)) → List S → Int → Prop
  | nil {s : S} : WayR s [] [] 0
  | cons {s t : S} {p q : Int} {mv : S → List (S × Int)} {mvs : List (S → List (S × Int))} {ws : List S} : (t, p) ∈ mv s → WayR t mvs ws q → WayR s (mv :: mvs) (t :: ws) (p + q)
theorem way_met : ∀ {mvs : List (S → List (S × Int))} {s : S} {ws : List S} {q : Int}, WayR s mvs ws q → ∀ {r : Row S}, (r.map (·.1)).Nodup → ∀ {x : Int × Option S}, getR r s = some x → ∃ y, getR (lastL r (allR r mvs)) (lastL s (ws)) = some y ∧ y.1 ≤ x.1 + q
  | _, _, _, _, .nil, r, _, x, h => ⟨x, h, by omega⟩
  | _, s, _, _, .cons (t := t) (p := p) (q := q) (mv := mv) (mvs := mvs) (ws := ws) hm hw, r, nd, x, h => by
    have M := reachR_made mv r
    obtain ⟨y, y1, y2⟩ := M.met (s, x) (getR_mem h) (t, p) hm
    obtain ⟨z, z1, z2⟩ := way_met hw M.nd y1
    refine ⟨z, ?_, by have : y.1 ≤ x.1 + p := y2; omega⟩
    have e1 : lastL r (allR r (mv :: mvs)) = lastL (reachR mv r) (allR (reachR mv r) mvs) := by
      show lastL r (r :: allR (reachR mv r) mvs) = _
      cases hq : allR (reachR mv r) mvs with
      | nil => have := allR_len mvs (reachR mv r); rw [hq] at this; simp at this
      | cons a l => rfl
    have e2 : lastL s (t :: ws) = lastL t (ws) := rfl
    rw [e1, e2]
    exact z1
def prevR (r : Row S) (s : S) : S := ((getR r s).bind (·.2)).getD s
def traceR : List (Row S) → S → List S
  | [], _ => []
  | r :: rs, s => s :: traceR rs (prevR r s)
theorem way_snoc : ∀ {mvs : List (S → List (S × Int))} {s : S} {ws : List S} {q : Int}, WayR s mvs ws q → ∀ {mv : S → List (S × Int)} {t : S} {p : Int}, (t, p) ∈ mv (lastL s (ws)) → WayR s (mvs ++ [mv]) (ws ++ [t]) (q + p)
  | _, _, _, _, .nil, mv, t, p, h => by
    have := WayR.cons (mvs := []) (ws := []) h .nil
    rw [show (0 : Int) + p = p + 0 by omega]
    exact this
  | _, s, _, _, .cons (t := u) (p := a) (q := b) (ws := ws) hm hw, mv, t, p, h => by
    have e2 : lastL s (u :: ws) = lastL u (ws) := rfl
    rw [e2] at h
    have := WayR.cons hm (way_snoc hw h)
    rw [show a + b + p = a + (b + p) by omega]
    exact this
theorem trace_way (st : S) : ∀ (n : Nat) (mvs : List (S → List (S × Int))), mvs.length = n → ∀ (s : S) (x : Int × Option S), getR (lastL [] (allR [(st, 0, none)] mvs)) s = some x →
    WayR st mvs (traceR ((allR [(st, 0, none)] mvs).drop 1).reverse s).reverse x.1 ∧ (lastL st ((traceR ((allR [(st, 0, none)] mvs).drop 1).reverse s).reverse)) = s
  | 0, mvs, hl, s, x, h => by
    cases (List.length_eq_zero_iff.mp hl)
    have h' : getR [(st, (0 : Int), (none : Option S))] s = some x := h
    by_cases q : st = s
    · rw [getR_pos q] at h'
      cases h'
      exact ⟨.nil, q⟩
    · rw [getR_neg q] at h'
      cases h'
  | n + 1, mvs, hl, s, x, h => by
    have hne : mvs ≠ [] := fun z => by rw [z] at hl; simp at hl
    obtain ⟨ms, mv, rfl⟩ : ∃ ms mv, mvs = ms ++ [mv] := ⟨mvs.dropLast, mvs.getLast hne, (List.dropLast_concat_getLast hne).symm⟩
    have hl' : ms.length = n := by simpa using hl
    have ln := allR_len ms [(st, (0 : Int), (none : Option S))]
    rw [allR_snoc] at h ⊢
    generalize hL : allR [(st, (0 : Int), (none : Option S))] ms = L at *
    obtain ⟨a, L', rfl⟩ : ∃ a L', L = a :: L' := by
      cases L with
      | nil => simp at ln
      | cons a L' => exact ⟨a, L', rfl⟩
    have el : lastL [] ((a :: L') ++ [reachR mv (lastL [(st, 0, none)] (a :: L'))]) = reachR mv (lastL [(st, 0, none)] (a :: L')) := lastL_snoc _ _ _
    rw [el] at h
    have M := reachR_made mv (lastL [(st, 0, none)] (a :: L'))
    obtain ⟨e, m, he, hm, hs, hx⟩ := M.of s x h
    have ed : ((a :: L') ++ [reachR mv (lastL [(st, 0, none)] (a :: L'))]).drop 1 = L' ++ [reachR mv (lastL [(st, 0, none)] (a :: L'))] := rfl
    have pv : prevR (reachR mv (lastL [(st, 0, none)] (a :: L'))) s = e.1 := by unfold prevR; rw [h, hx]; rfl
    have et : traceR (((a :: L') ++ [reachR mv (lastL [(st, 0, none)] (a :: L'))]).drop 1).reverse s = s :: traceR L'.reverse e.1 := by
      rw [ed, List.reverse_append]
      show s :: traceR L'.reverse (prevR _ s) = _
      rw [pv]
    have eL : lastL [(st, 0, none)] (a :: L') = lastL [] (a :: L') := rfl
    have nd : ((lastL [] (a :: L')).map (·.1)).Nodup := by
      cases ms with
      | nil =>
        have : a :: L' = [[(st, (0 : Int), (none : Option S))]] := hL.symm
        rw [this]
        show ([(st, (0 : Int), (none : Option S))].map (·.1)).Nodup
        simp
      | cons m0 ms0 =>
        have hne2 : (m0 :: ms0) ≠ [] := by simp
        have e3 : m0 :: ms0 = (m0 :: ms0).dropLast ++ [(m0 :: ms0).getLast hne2] := (List.dropLast_concat_getLast hne2).symm
        rw [e3, allR_snoc] at hL
        rw [← hL]
        have := (reachR_made ((m0 :: ms0).getLast hne2) (lastL [(st, 0, none)] (allR [(st, (0 : Int), (none : Option S))] (m0 :: ms0).dropLast))).nd
        rw [lastL_snoc]
        exact this
    rw [eL] at he
    have ge := getR_of nd he
    obtain ⟨i1, i2⟩ := trace_way st n ms hl' e.1 e.2 (by rw [hL]; exact ge)
    rw [hL] at i1 i2
    have i1' : WayR st ms (traceR L'.reverse e.1).reverse e.2.1 := i1
    have i2' : lastL st ((traceR L'.reverse e.1).reverse) = e.1 := i2
    rw [et, List.reverse_cons, hx]
    refine ⟨?_, lastL_snoc _ _ _⟩
    obtain ⟨m1, m2⟩ := m
    cases (show m1 = s from hs)
    exact way_snoc i1' (by rw [i2']; exact hm)
end
section
variable {S : Type} [DecidableEq S]
theorem allR_zero (r : Row S) (mvs : List (S → List (S × Int))) : (allR r mvs).getD 0 [] = r := by cases mvs <;> rfl
theorem allR_next : ∀ (mvs : List (S → List (S × Int))) (r : Row S) (j : Nat), j < mvs.length → (allR r mvs).getD (j + 1) [] = reachR (mvs.getD j fun _ => []) ((allR r mvs).getD j [])
  | [], r, j, h => by simp at h
  | mv :: mvs, r, 0, h => by
    show (allR (reachR mv r) mvs).getD 0 [] = reachR mv r
    exact allR_zero _ _
  | mv :: mvs, r, j + 1, h => by
    have := allR_next mvs (reachR mv r) j (by simpa using h)
    show (allR (reachR mv r) mvs).getD (j + 1) [] = reachR ((mv :: mvs).getD (j + 1) fun _ => []) ((allR (reachR mv r) mvs).getD j [])
    rw [this]
    congr 1
def stT (R : List (Row S)) (s : S) : Nat → S
  | 0 => s
  | i + 1 => prevR (R.getD i []) (stT R s i)
theorem stT_cons (r : Row S) (R : List (Row S)) (s : S) : ∀ i, stT (r :: R) s (i + 1) = stT R (prevR r s) i
  | 0 => rfl
  | i + 1 => by
    show prevR ((r :: R).getD (i + 1) []) (stT (r :: R) s (i + 1)) = prevR (R.getD i []) (stT R (prevR r s) i)
    rw [stT_cons r R s i]
    rfl
theorem trace_st : ∀ (R : List (Row S)) (s : S), traceR R s = (List.range R.length).map (stT R s)
  | [], s => rfl
  | r :: R, s => by
    show s :: traceR R (prevR r s) = _
    rw [trace_st R, List.length_cons, List.range_succ_eq_map, List.map_cons, List.map_map]
    congr 1
    exact List.map_congr_left fun i _ => (stT_cons r R s i).symm
theorem drop_rev_at {α : Type} (L : List α) (d : α) (T i : Nat) (hl : L.length = T + 1) (hi : i < T) : (L.drop 1).reverse.getD i d = L.getD (T - i) d := by
  have l1 : (L.drop 1).length = T := by rw [List.length_drop]; omega
  rw [List.getD_eq_getElem?_getD, List.getElem?_reverse (by omega), List.getElem?_drop, l1, List.getD_eq_getElem?_getD]
  congr 2
  omega
theorem stT_ok {r0 : Row S} {mvs : List (S → List (S × Int))} {s : S} (hs : s ∈ ((allR r0 mvs).getD mvs.length []).map (·.1)) : ∀ i, i ≤ mvs.length → stT ((allR r0 mvs).drop 1).reverse s i ∈ ((allR r0 mvs).getD (mvs.length - i) []).map (·.1)
  | 0, _ => hs
  | i + 1, hi => by
    have ih := stT_ok hs i (by omega)
    obtain ⟨x, hx⟩ := getR_some ih
    have e1 := drop_rev_at (allR r0 mvs) [] mvs.length i (allR_len mvs r0) (by omega)
    have e2 := allR_next mvs r0 (mvs.length - (i + 1)) (by omega)
    rw [show mvs.length - (i + 1) + 1 = mvs.length - i by omega] at e2
    have M := reachR_made (mvs.getD (mvs.length - (i + 1)) fun _ => []) ((allR r0 mvs).getD (mvs.length - (i + 1)) [])
    have hx' := hx
    rw [e2] at hx'
    obtain ⟨e, m, he, _, _, ex⟩ := M.of _ _ hx'
    show prevR (((allR r0 mvs).drop 1).reverse.getD i []) (stT ((allR r0 mvs).drop 1).reverse s i) ∈ _
    rw [e1]
    unfold prevR
    rw [hx, ex]
    exact List.mem_map.mpr ⟨e, he, rfl⟩
theorem stT_get {r0 : Row S} {mvs : List (S → List (S × Int))} {s : S} (hs : s ∈ ((allR r0 mvs).getD mvs.length []).map (·.1)) (i : Nat) (hi : i < mvs.length) : ∃ p b, getR ((allR r0 mvs).getD (mvs.length - i) []) (stT ((allR r0 mvs).drop 1).reverse s i) = some (p, some b) ∧ stT ((allR r0 mvs).drop 1).reverse s (i + 1) = b := by
  obtain ⟨x, hx⟩ := getR_some (stT_ok hs i (by omega))
  have e1 := drop_rev_at (allR r0 mvs) [] mvs.length i (allR_len mvs r0) hi
  have e2 := allR_next mvs r0 (mvs.length - (i + 1)) (by omega)
  rw [show mvs.length - (i + 1) + 1 = mvs.length - i by omega] at e2
  have M := reachR_made (mvs.getD (mvs.length - (i + 1)) fun _ => []) ((allR r0 mvs).getD (mvs.length - (i + 1)) [])
  have hx' := hx
  rw [e2] at hx'
  obtain ⟨e, m, he, _, _, ex⟩ := M.of _ _ hx'
  refine ⟨_, e.1, by rw [hx, ex], ?_⟩
  show prevR (((allR r0 mvs).drop 1).reverse.getD i []) (stT ((allR r0 mvs).drop 1).reverse s i) = _
  rw [e1]
  unfold prevR
  rw [hx, ex]
  rfl
theorem last_getD {α : Type} (d : α) : ∀ (L : List α) (n : Nat), L.length = n + 1 → lastL d L = L.getD n d
  | [], n, h => by simp at h
  | [x], 0, h => rfl
  | [x], n + 1, h => by simp at h
  | x :: y :: L, 0, h => by simp at h
  | x :: y :: L, n + 1, h => by
    have e : lastL d (x :: y :: L) = lastL d (y :: L) := rfl
    rw [e, last_getD d (y :: L) n (by simpa using h)]
    rfl
theorem allR_nodup {r0 : Row S} (nd : (r0.map (·.1)).Nodup) {mvs : List (S → List (S × Int))} (j : Nat) (hj : j ≤ mvs.length) : (((allR r0 mvs).getD j []).map (·.1)).Nodup := by
  cases j with
  | zero => rw [allR_zero]; exact nd
  | succ j => rw [allR_next _ _ _ (by omega)]; exact (reachR_made _ _).nd
end
def msI (r : Row Int) : List Int := (r.map (·.1)).mergeSort fun a b => decide (a ≤ b)
theorem msI_perm (r : Row Int) : (msI r).Perm (r.map (·.1)) := List.mergeSort_perm _ _
theorem msI_sorted (r : Row Int) : (msI r).Pairwise (· ≤ ·) := by
  have := List.pairwise_mergeSort (le := fun a b : Int => decide (a ≤ b)) (fun a b c h1 h2 => by simp at *; omega) (fun a b => by simp; omega) (r.map (·.1))
  exact this.imp fun h => by simpa using h
def kfI (r : Row Int) (i : Nat) : Int := ((getR r ((msI r).getD i 0)).getD (0, none)).1
def bsI (r : Row Int) : Int := (msI r).getD (bestOf (lti (kfI r)) ((msI r).length - 1)) 0
def lsI (r : Row Int) : Int := ((getR r (bsI r)).getD (0, none)).1
theorem bsI_in {r : Row Int} (hne : r ≠ []) : bsI r ∈ r.map (·.1) := by
  have hl : (msI r).length = r.length := by rw [(msI_perm r).length_eq, List.length_map]
  have h0 : 0 < r.length := List.length_pos_iff.mpr hne
  have hb := bestOf_le (lti (kfI r)) ((msI r).length - 1)
  refine (msI_perm r).mem_iff.mp ?_
  unfold bsI
  rw [List.getD_eq_getElem?_getD, List.getElem?_eq_getElem (by omega)]
  exact List.getElem_mem _
theorem lsI_le {r : Row Int} {s : Int} {x : Int × Option Int} (h : getR r s = some x) : lsI r ≤ x.1 := by
  have hm : s ∈ msI r := (msI_perm r).mem_iff.mpr (List.mem_map.mpr ⟨(s, x), getR_mem h, rfl⟩)
  obtain ⟨j, hj, rfl⟩ := List.getElem_of_mem hm
  have := bestOf_min (lti_irr (kfI r)) (lti_tr (kfI r)) ((msI r).length - 1) j (by omega)
  have := of_decide_eq_false this
  have e : kfI r j = x.1 := by unfold kfI; rw [List.getD_eq_getElem?_getD, List.getElem?_eq_getElem hj, Option.getD_some, h]; rfl
  have e2 : kfI r (bestOf (lti (kfI r)) ((msI r).length - 1)) = lsI r := rfl
  omega
def wyI (st : Int) (mvs : List (Int → List (Int × Int))) : List Int := (traceR ((allR [(st, 0, none)] mvs).drop 1).reverse (bsI ((allR [(st, 0, none)] mvs).getD mvs.length []))).reverse
def beI (st : Int) (mvs : List (Int → List (Int × Int))) : Int := lsI ((allR [(st, 0, none)] mvs).getD mvs.length [])
theorem reachR_ne {S : Type} [DecidableEq S] {mv : S → List (S × Int)} {r : Row S} (hr : r ≠ []) (hm : ∀ s ∈ r.map (·.1), mv s ≠ []) : reachR mv r ≠ [] := by
  obtain ⟨e, he⟩ := List.exists_mem_of_ne_nil r hr
  obtain ⟨m, hm⟩ := List.exists_mem_of_ne_nil _ (hm e.1 (List.mem_map.mpr ⟨e, he, rfl⟩))
  obtain ⟨x, hx, _⟩ := (reachR_made mv r).met e he m hm
  intro z
  rw [z] at hx
  cases hx
theorem best_way {st : Int} {mvs : List (Int → List (Int × Int))} (hne : (allR [(st, (0 : Int), (none : Option Int))] mvs).getD mvs.length [] ≠ []) : WayR st mvs (wyI st mvs) (beI st mvs) ∧ ∀ ws q, WayR st mvs ws q → beI st mvs ≤ q := by
  have el : lastL [] (allR [(st, (0 : Int), (none : Option Int))] mvs) = (allR [(st, (0 : Int), (none : Option Int))] mvs).getD mvs.length [] := last_getD [] _ _ (allR_len _ _)
  have el2 : lastL [(st, (0 : Int), (none : Option Int))] (allR [(st, (0 : Int), (none : Option Int))] mvs) = (allR [(st, (0 : Int), (none : Option Int))] mvs).getD mvs.length [] := by rw [← el]; cases mvs <;> rfl
  constructor
  · obtain ⟨x, hx⟩ := getR_some (bsI_in hne)
    have := (trace_way st mvs.length mvs rfl _ x (by rw [el]; exact hx)).1
    have e : beI st mvs = x.1 := by unfold beI lsI; rw [hx]; rfl
    rw [e]
    exact this
  · intro ws q h
    obtain ⟨y, y1, y2⟩ := way_met h (r := [(st, (0 : Int), (none : Option Int))]) (by simp) (getR_pos rfl)
    rw [el2] at y1
    have := lsI_le y1
    have y2' : y.1 ≤ (0 : Int) + q := y2
    unfold beI
    omega
theorem way_len {S : Type} [DecidableEq S] {mvs : List (S → List (S × Int))} {s : S} {ws : List S} {q : Int} (h : WayR s mvs ws q) : ws.length = mvs.length := by
  induction h with
  | nil => rfl
  | cons _ _ ih => simp [ih]
def TK (H H' : Hp) : Prop := ∀ b xs, H b = some (.tup xs) → H' b = some (.tup xs)
theorem TK.tr {H H1 H2 : Hp} (a : TK H H1) (b : TK H1 H2) : TK H H2 := fun c xs h => b c xs (a c xs h)
theorem tk_ext {H H' : Hp} (e : Ext H H') : TK H H' := fun b xs h => e b _ h
theorem tk_extT {H H' : Hp} (e : ExtT H H') : TK H H' := fun b xs h => e b _ h rfl
theorem tk_butK {H H' : Hp} {x : Addr} {kvs : List (Key × V)} (hx : H x = some (.dK kvs)) (b : But x H H') : TK H H' := fun c xs h => b c _ (fun z => by rw [z, hx] at h; cases h) h
theorem tk_butL {H H' : Hp} {x : Addr} {ys : List V} (hx : H x = some (.lst ys)) (b : But x H H') : TK H H' := fun c xs h => b c _ (fun z => by rw [z, hx] at h; cases h) h
section
variable {S κ : Type} [DecidableEq S] [DecidableEq κ]
def bfV (sv : Hp → S → V → Prop) (H : Hp) : Option S → V → Prop
  | none, v => v = .non
  | some s, v => sv H s v
inductive RowG (key : S → κ) (sv : Hp → S → V → Prop) (H : Hp) : List (κ × V) → Row S → Prop
  | nil : RowG key sv H [] []
  | cons {s : S} {q : Addr} {p : Int} {b : Option S} {bv : V} {kvs : List (κ × V)} {r : Row S} : H q = some (.tup [.int p, bv]) → bfV sv H b bv → RowG key sv H kvs r → RowG key sv H ((key s, .ref q) :: kvs) ((s, p, b) :: r)
variable {key : S → κ} {sv : Hp → S → V → Prop} {H H' : Hp} {kvs : List (κ × V)} {r : Row S}
theorem RowG.mono (mo : ∀ {s v}, sv H s v → sv H' s v) (e : TK H H') (h : RowG key sv H kvs r) : RowG key sv H' kvs r := by
  induction h with
  | nil => exact .nil
  | @cons s q p b bv kvs r hq hb _ ih =>
    refine .cons (e _ _ hq) ?_ ih
    cases b with
    | none => exact hb
    | some x => exact mo hb
theorem RowG.length (h : RowG key sv H kvs r) : kvs.length = r.length := by
  induction h with
  | nil => rfl
  | cons _ _ _ ih => simp [ih]
theorem RowG.keys (h : RowG key sv H kvs r) : kvs.map (·.1) = r.map fun e => key e.1 := by
  induction h with
  | nil => rfl
  | cons _ _ _ ih => simp [ih]
theorem RowG.at (h : RowG key sv H kvs r) : ∀ (i : Nat) (kv : κ × V), kvs[i]? = some kv → ∃ s q p b bv, r[i]? = some (s, p, b) ∧ kv = (key s, .ref q) ∧ H q = some (.tup [.int p, bv]) ∧ bfV sv H b bv := by
  induction h with
  | nil => exact fun i kv h => by simp at h
  | @cons s q p b bv kvs r hq hb _ ih =>
    intro i kv h
    cases i with
    | zero => simp at h; exact ⟨s, q, p, b, bv, by simp, h.symm, hq, hb⟩
    | succ i => simpa using ih i kv (by simpa using h)
theorem RowG.val (inj : ∀ a b, key a = key b → a = b) (h : RowG key sv H kvs r) (s : S) : (valV kvs (key s) = none ∧ getR r s = none) ∨ ∃ q p b bv, valV kvs (key s) = some (.ref q) ∧ getR r s = some (p, b) ∧ H q = some (.tup [.int p, bv]) ∧ bfV sv H b bv := by
  induction h with
  | nil => exact .inl ⟨rfl, rfl⟩
  | @cons t q p b bv kvs r hq hb _ ih =>
    by_cases e : t = s
    · subst e
      exact .inr ⟨q, p, b, bv, valV_pos rfl, getR_pos rfl, hq, hb⟩
    · rw [valV_neg (p := (key t, V.ref q)) (fun z => e (inj _ _ z)), getR_neg (e := (t, p, b)) e]
      exact ih
theorem RowG.any (inj : ∀ a b, key a = key b → a = b) (h : RowG key sv H kvs r) (s : S) : (kvs.any fun kv => decide (kv.1 = key s)) = r.any fun e => decide (e.1 = s) := by
  rw [valV_any, getR_any]
  rcases h.val inj s with ⟨a, b⟩ | ⟨q, p, b, bv, a, c, _⟩
  · rw [a, b]; rfl
  · rw [a, c]; rfl
theorem RowG.repl (inj : ∀ a b, key a = key b → a = b) (h : RowG key sv H kvs r) {s : S} {q : Addr} {p : Int} {b : Option S} {bv : V} (hq : H q = some (.tup [.int p, bv])) (hb : bfV sv H b bv) : RowG key sv H (kvs.map fun kv => if kv.1 = key s then (kv.1, .ref q) else kv) (r.map fun e => if e.1 = s then (e.1, (p, b)) else e) := by
  induction h with
  | nil => exact .nil
  | @cons t q' p' b' bv' kvs r hq' hb' _ ih =>
    rw [List.map_cons, List.map_cons]
    by_cases e : t = s
    · subst e
      rw [if_pos rfl, if_pos rfl]
      exact .cons hq hb ih
    · rw [if_neg (show ¬ (key t, V.ref q').1 = key s from fun z => e (inj _ _ z)), if_neg (show ¬ (t, p', b').1 = s from e)]
      exact .cons hq' hb' ih
theorem RowG.snoc (h : RowG key sv H kvs r) {s : S} {q : Addr} {p : Int} {b : Option S} {bv : V} (hq : H q = some (.tup [.int p, bv])) (hb : bfV sv H b bv) : RowG key sv H (kvs ++ [(key s, .ref q)]) (r ++ [(s, (p, b))]) := by
  induction h with
  | nil => exact .cons hq hb .nil
  | cons hq' hb' _ ih => exact .cons hq' hb' ih
theorem RowG.put (inj : ∀ a b, key a = key b → a = b) (h : RowG key sv H kvs r) {s : S} {q : Addr} {p : Int} {b : Option S} {bv : V} (hq : H q = some (.tup [.int p, bv])) (hb : bfV sv H b bv) : RowG key sv H (putK kvs (key s) (.ref q)) (putR r s (p, b)) := by
  unfold putK putR
  rw [h.any inj s]
  split
  · exact h.repl inj hq hb
  · exact h.snoc hq hb
end
theorem nat_few : ∀ (n : Nat) (l : List Nat), l.Nodup → (∀ x ∈ l, x < n) → l.length ≤ n
  | 0, l, _, h => by
    cases l with
    | nil => exact Nat.le_refl _
    | cons x r => exact absurd (h x List.mem_cons_self) (by omega)
  | n + 1, l, nd, h => by
    by_cases q : n ∈ l
    · have := nat_few n (l.erase n) (nd.erase _) fun x hx => by
        have h1 := h x (List.mem_of_mem_erase hx)
        have h2 : x ≠ n := fun z => by
          rw [z] at hx
          exact (List.Nodup.not_mem_erase nd) hx
        omega
      rw [List.length_erase_of_mem q] at this
      omega
    · have := nat_few n l nd fun x hx => by
        have h1 := h x hx
        have h2 : x ≠ n := fun z => q (z ▸ hx)
        omega
      omega
theorem ints_few {n : Nat} {l : List Int} (nd : l.Nodup) (h : ∀ x ∈ l, 0 ≤ x ∧ x < n) : l.length ≤ n := by
  have := nat_few n (l.map Int.toNat) (by
    refine List.pairwise_map.mpr (List.Pairwise.imp_of_mem (fun {a b} ha hb q z => q ?_) nd)
    have := h a ha
    have := h b hb
    omega) fun x hx => by
      obtain ⟨y, hy, rfl⟩ := List.mem_map.mp hx
      have := h y hy
      omega
  simpa using this
abbrev kI : Int → Key := Sum.inl
abbrev svI : Hp → Int → V → Prop := fun _ s v => v = .int s
theorem kI_inj (a b : Int) (h : kI a = kI b) : a = b := by cases h; rfl
abbrev RowI := RowG kI svI
structure AccI (n : Nat) (acc : Row Int) : Prop where
  nd : (acc.map (·.1)).Nodup
  lt : ∀ s : Int, s ∈ acc.map (·.1) → 0 ≤ s ∧ s < (n : Int)
theorem AccI.len {n : Nat} {acc : Row Int} (h : AccI n acc) : acc.length ≤ n := by
  have := ints_few h.nd h.lt
  simpa using this
theorem AccI.step {n : Nat} {acc : Row Int} {p b : Int} {m : Int × Int} (h : AccI n acc) (h0 : 0 ≤ m.1) (h1 : m.1 < n) : AccI n (stepR p b acc m) := by
  obtain ⟨_, _, g⟩ := stepR_get (p := p) (b := b) (acc := acc) (m := m)
  refine ⟨g h.nd, fun s hs => ?_⟩
  have put : ∀ x, s ∈ (putR acc m.1 x).map (·.1) → 0 ≤ s ∧ s < (n : Int) := fun x hx => by
    rcases putR_sub hx with e | e
    · rw [e]; exact ⟨h0, h1⟩
    · exact h.lt s e
  unfold stepR at hs
  split at hs
  · exact put _ hs
  · split at hs
    · exact put _ hs
    · exact h.lt s hs
theorem atI_lastV {α : Type} {xs : List α} {v : α} (h : 0 < xs.length) (e : xs[xs.length - 1]? = some v) : atI xs (-1) = some v := by
  have : ixN xs.length (-1) = some (xs.length - 1) := by
    unfold ixN
    rw [if_neg (by decide), if_pos (by omega)]
    congr 1
    omega
  unfold atI
  rw [this]
  exact e
theorem cut_one (xs : List V) (h : 1 ≤ xs.length) : cutV xs (some 1) none = xs.drop 1 := by
  unfold cutV HT.sIx
  dsimp only
  rw [if_neg (by decide), show min (1 : Int).toNat xs.length = 1 by show min 1 xs.length = 1; omega]
  exact List.take_of_length_le (by rw [List.length_drop]; exact Nat.le_refl _)
theorem rowI_mono {H H' : Hp} {kvs : List (Key × V)} {r : Row Int} (e : TK H H') (h : RowI H kvs r) : RowI H' kvs r := RowG.mono (H := H) (H' := H') (fun h => h) e h
def wfl (wo q : Addr) (h z : Int) : List (Str × V) := [("world", .ref wo), ("standing", .int h), ("spent", .int z), ("reckoned", .ref q)]
structure WaysAt (a : Adr) (H : Hp) (r : Addr) (ns : List Int) (h t z : Int) : Prop where
  ex : ∃ dx wo dw q, H r = some (.ins a.c_Changer dx (wfl wo q h z)) ∧ H wo = some (.ins a.c_Ways dw [("many", .int ns.length), ("toll", .int t)]) ∧ H q = some (.lst (ns.map V.int))
theorem WaysAt.ext {a : Adr} {H H' : Hp} {r : Addr} {ns : List Int} {h t z : Int} (e : Ext H H') (k : WaysAt a H r ns h t z) : WaysAt a H' r ns h t z := by
  obtain ⟨dx, wo, dw, q, h1, h2, h3⟩ := k.ex
  exact ⟨dx, wo, dw, q, e _ _ h1, e _ _ h2, e _ _ h3⟩
def frw (ns cs : List Int) : List Int := List.zipWith (· + ·) ns cs
def goW (ns cs : List Int) (t h : Int) : Int := if (frw ns cs).getD h.toNat 0 > mn (frw ns cs) + t then (((frw ns cs).idxOf (mn (frw ns cs)) : Nat) : Int) else h
def upW (ns cs : List Int) (t : Int) : List Int := (frw ns cs).map fun x => min x (mn (frw ns cs) + t)
def prc (cs : List Int) (b f t : Int) : Int := if f = b then cs.getD f.toNat 0 else cs.getD f.toNat 0 + t
def fstW (n : Nat) (t h : Int) : List Int := (List.range n).map fun (i : Nat) => if (i : Int) = h then (0 : Int) else t
structure WOk (ns : List Int) (h t : Int) : Prop where
  lo : 1 ≤ ns.length
  hi : ns.length ≤ 8
  h0 : 0 ≤ h
  h1 : h < ns.length
  t0 : 0 ≤ t
  t1 : t ≤ 1000000000000000000
  near : ∀ x ∈ ns, x ≤ mn ns + t
structure ChOk (ns cs : List Int) : Prop where
  len : cs.length = ns.length
  am : ∀ c ∈ cs, 0 ≤ c ∧ c ≤ 1000000000000000000
theorem frw_len {ns cs : List Int} (h : cs.length = ns.length) : (frw ns cs).length = ns.length := by
  unfold frw; rw [List.length_zipWith]; omega
theorem frw_ne {ns cs : List Int} (h : cs.length = ns.length) (lo : 1 ≤ ns.length) : frw ns cs ≠ [] := by
  intro z
  have := frw_len h
  rw [z] at this
  simp at this
  omega
theorem upW_len {ns cs : List Int} {t : Int} (h : cs.length = ns.length) : (upW ns cs t).length = ns.length := by
  unfold upW; rw [List.length_map, frw_len h]
theorem frw_at {ns cs : List Int} (h : cs.length = ns.length) {j : Nat} (hj : j < ns.length) : (frw ns cs).getD j 0 = ns.getD j 0 + cs.getD j 0 := by
  unfold frw
  rw [List.getD_eq_getElem?_getD, List.getElem?_zipWith, List.getD_eq_getElem?_getD, List.getD_eq_getElem?_getD, List.getElem?_eq_getElem hj, List.getElem?_eq_getElem (show j < cs.length by omega)]
  rfl
theorem mem_getD {l : List Int} {j : Nat} (h : j < l.length) : l.getD j 0 ∈ l := by
  rw [List.getD_eq_getElem?_getD, List.getElem?_eq_getElem h]
  exact List.getElem_mem h
theorem upW_at {ns cs : List Int} {t : Int} (h : cs.length = ns.length) {j : Nat} (hj : j < ns.length) : (upW ns cs t).getD j 0 = min ((frw ns cs).getD j 0) (mn (frw ns cs) + t) := by
  unfold upW
  have := frw_len h
  rw [List.getD_eq_getElem?_getD, List.getElem?_map, List.getElem?_eq_getElem (show j < (frw ns cs).length by omega), List.getD_eq_getElem?_getD, List.getElem?_eq_getElem (show j < (frw ns cs).length by omega)]
  rfl
theorem mn_up {ns cs : List Int} {t : Int} (h : cs.length = ns.length) (lo : 1 ≤ ns.length) (t0 : 0 ≤ t) : mn (upW ns cs t) = mn (frw ns cs) := by
  have hf := mn_is (frw_ne h lo)
  have hu : upW ns cs t ≠ [] := by intro z; have := upW_len (t := t) h; rw [z] at this; simp at this; omega
  refine (mn_is hu).uniq ⟨?_, fun x hx => ?_⟩
  · unfold upW
    refine List.mem_map.mpr ⟨_, hf.1, ?_⟩
    exact Int.min_eq_left (by omega)
  · unfold upW at hx
    obtain ⟨y, hy, rfl⟩ := List.mem_map.mp hx
    have := hf.2 y hy
    omega
theorem goW_in {ns cs : List Int} {t h : Int} (k : WOk ns h t) (c : ChOk ns cs) : 0 ≤ goW ns cs t h ∧ goW ns cs t h < ns.length := by
  unfold goW
  have h0 := k.h0
  have h1 := k.h1
  split
  · have := List.idxOf_lt_length_iff.mpr (mn_is (frw_ne c.len k.lo)).1
    rw [frw_len c.len] at this
    omega
  · omega
theorem WOk.go {ns cs : List Int} {t h : Int} (k : WOk ns h t) (c : ChOk ns cs) : WOk (upW ns cs t) (goW ns cs t h) t := by
  have l := upW_len (t := t) c.len
  have g := goW_in k c
  refine ⟨by have := k.lo; omega, by have := k.hi; omega, g.1, by omega, k.t0, k.t1, fun x hx => ?_⟩
  rw [mn_up c.len k.lo k.t0]
  unfold upW at hx
  obtain ⟨y, _, rfl⟩ := List.mem_map.mp hx
  omega
theorem fst_len {n : Nat} {t h : Int} : (fstW n t h).length = n := by unfold fstW; simp
theorem fst_at {n : Nat} {t h : Int} {j : Nat} (hj : j < n) : (fstW n t h).getD j 0 = if (j : Int) = h then 0 else t := by
  unfold fstW
  rw [List.getD_eq_getElem?_getD, List.getElem?_map, List.getElem?_range hj]
  rfl
theorem fst_ok {n : Nat} {t h : Int} (n1 : 1 ≤ n) (n8 : n ≤ 8) (h0 : 0 ≤ h) (h1 : h < n) (t0 : 0 ≤ t) (t1 : t ≤ 1000000000000000000) : WOk (fstW n t h) h t := by
  have l := fst_len (n := n) (t := t) (h := h)
  have hne : fstW n t h ≠ [] := by intro z; rw [z] at l; simp at l; omega
  have m0 : mn (fstW n t h) = 0 := by
    refine (mn_is hne).uniq ⟨?_, fun x hx => ?_⟩
    · unfold fstW
      refine List.mem_map.mpr ⟨h.toNat, List.mem_range.mpr (by omega), ?_⟩
      rw [if_pos (by omega)]
    · unfold fstW at hx
      obtain ⟨y, _, rfl⟩ := List.mem_map.mp hx
      split <;> omega
  refine ⟨by omega, by omega, h0, by omega, t0, t1, fun x hx => ?_⟩
  rw [m0]
  unfold fstW at hx
  obtain ⟨y, _, rfl⟩ := List.mem_map.mp hx
  split <;> omega
theorem ext_getD {l m : List Int} (hl : l.length = m.length) (h : ∀ j, j < l.length → l.getD j 0 = m.getD j 0) : l = m := by
  refine List.ext_getElem hl fun j h1 h2 => ?_
  have := h j h1
  rwa [List.getD_eq_getElem?_getD, List.getD_eq_getElem?_getD, List.getElem?_eq_getElem h1, List.getElem?_eq_getElem h2] at this
theorem range_getD {n : Nat} {f : Nat → Int} {j : Nat} (hj : j < n) : ((List.range n).map f).getD j 0 = f j := by
  rw [List.getD_eq_getElem?_getD, List.getElem?_map, List.getElem?_range hj]
  rfl
theorem RepL.snoc {H : Hp} {d : D} {x : V} (h : Rep H d x) : ∀ {l : List D} {xs : List V}, RepL H l xs → RepL H (l ++ [d]) (xs ++ [x])
  | [], xs, r => by cases (show xs = [] from r); exact RepL.cons h RepL.nil
  | e :: l, xs, r => by
    obtain ⟨y, t, rfl, r1, r2⟩ := r
    exact RepL.cons r1 (RepL.snoc h r2)
def pr2 (p : Int × Int) : D := .tup [.int p.1, .int p.2]
def wmv (cs : List Int) (b t : Int) (n : Nat) : List (Int × Int) := (List.range n).map fun (i : Nat) => ((i : Int), prc cs b (i : Int) t)
theorem wmv_len (cs : List Int) (b t : Int) (n : Nat) : (wmv cs b t n).length = n := by unfold wmv; simp
theorem wmv_succ (cs : List Int) (b t : Int) (n : Nat) : (wmv cs b t (n + 1)).map pr2 = (wmv cs b t n).map pr2 ++ [pr2 ((n : Int), prc cs b (n : Int) t)] := by
  unfold wmv
  rw [List.range_succ, List.map_append, List.map_append]
  rfl
theorem pr2_rep {H : Hp} {q : Addr} {x y : Int} (h : H q = some (.tup [.int x, .int y])) : Rep H (pr2 (x, y)) (.ref q) := Rep.tupI h (RepL.cons .intI (RepL.cons .intI RepL.nil))
theorem pr2_at {H : Hp} {x y : Int} {v : V} (h : Rep H (pr2 (x, y)) v) : ∃ q, v = .ref q ∧ H q = some (.tup [.int x, .int y]) := by
  obtain ⟨q, ys, rfl, g, f⟩ := h
  obtain ⟨u, w, rfl, ru, rw0⟩ := f
  obtain ⟨v, z, rfl, rv, rz⟩ := rw0
  cases (show z = [] from rz)
  cases (show u = .int x from ru)
  cases (show v = .int y from rv)
  exact ⟨q, rfl, g⟩
def mvW (t : Int) (cs : List Int) : Int → List (Int × Int) := fun b => wmv cs b t cs.length
theorem mvW_at {t b : Int} {cs : List Int} {m : Int × Int} (h : m ∈ mvW t cs b) : 0 ≤ m.1 ∧ m.1 < cs.length := by
  unfold mvW wmv at h
  obtain ⟨i, hi, rfl⟩ := List.mem_map.mp h
  have := List.mem_range.mp hi
  exact ⟨by show (0 : Int) ≤ (i : Int); omega, by show (i : Int) < _; omega⟩
def chW (n : Nat) (h : Int) : List Int := (List.range n).map fun (j : Nat) => if (j : Int) = h then (1 : Int) else 0
theorem chW_len (n : Nat) (h : Int) : (chW n h).length = n := by unfold chW; simp
theorem chW_at {n : Nat} {h : Int} {j : Nat} (hj : j < n) : (chW n h).getD j 0 = if (j : Int) = h then 1 else 0 := range_getD hj
theorem chW_am {n : Nat} {h : Int} : ∀ c ∈ chW n h, 0 ≤ c ∧ c ≤ 1000000000000000000 := fun c hc => by
  unfold chW at hc
  obtain ⟨j, _, rfl⟩ := List.mem_map.mp hc
  split <;> omega
def stW (n : Nat) (t : Int) : Nat → List Int × Int
  | 0 => (fstW n t 0, 0)
  | i + 1 => (upW (stW n t i).1 (chW n (stW n t i).2) t, goW (stW n t i).1 (chW n (stW n t i).2) t (stW n t i).2)
abbrev nsW (n : Nat) (t : Int) (i : Nat) : List Int := (stW n t i).1
abbrev haW (n : Nat) (t : Int) (i : Nat) : Int := (stW n t i).2
def wiW (n : Nat) (t : Int) (i : Nat) : List Int := chW n (haW n t i)
def wsW (n : Nat) (t : Int) (m : Nat) : List (List Int) := (List.range m).map (wiW n t)
theorem wsW_len (n : Nat) (t : Int) (m : Nat) : (wsW n t m).length = m := by unfold wsW; simp
theorem wsW_succ (n : Nat) (t : Int) (m : Nat) : wsW n t (m + 1) = wsW n t m ++ [wiW n t m] := by unfold wsW; rw [List.range_succ, List.map_append]; rfl
theorem wsW_at {n : Nat} {t : Int} {m i : Nat} (h : i < m) : (wsW n t m).getD i [] = wiW n t i := by
  unfold wsW
  rw [List.getD_eq_getElem?_getD, List.getElem?_map, List.getElem?_range h]
  rfl
theorem wsW_lens {n : Nat} {t : Int} {m : Nat} : ∀ L ∈ wsW n t m, L.length = n := fun L hL => by
  unfold wsW at hL
  obtain ⟨i, _, rfl⟩ := List.mem_map.mp hL
  exact chW_len _ _
def pyW (n : Nat) (t : Int) (i : Nat) : Int := prc (wiW n t i) (haW n t i) (haW n t (i + 1)) t
def pdW (n : Nat) (t : Int) : Nat → Int
  | 0 => 0
  | i + 1 => pdW n t i + pyW n t i
section
variable {n : Nat} {t : Int}
theorem stW_ok (n1 : 1 ≤ n) (n8 : n ≤ 8) (t0 : 0 ≤ t) (t1 : t ≤ 1000000000000000000) : ∀ i, WOk (nsW n t i) (haW n t i) t ∧ (nsW n t i).length = n
  | 0 => ⟨fst_ok n1 n8 (by omega) (by show (0 : Int) < n; omega) t0 t1, fst_len⟩
  | i + 1 => by
    obtain ⟨k, l⟩ := stW_ok n1 n8 t0 t1 i
    have c : ChOk (nsW n t i) (chW n (haW n t i)) := ⟨by rw [chW_len, l], chW_am⟩
    exact ⟨k.go c, by show (upW _ _ _).length = n; rw [upW_len c.len, l]⟩
theorem ch_ok (n1 : 1 ≤ n) (n8 : n ≤ 8) (t0 : 0 ≤ t) (t1 : t ≤ 1000000000000000000) (i : Nat) : ChOk (nsW n t i) (wiW n t i) := ⟨by rw [show (wiW n t i).length = n from chW_len _ _, (stW_ok n1 n8 t0 t1 i).2], chW_am⟩
end
theorem sum_set : ∀ (l : List Int) (i : Nat) (v : Int), i < l.length → (l.set i v).sum = l.sum - l.getD i 0 + v
  | [], i, v, h => by simp at h
  | x :: l, 0, v, _ => by
    show (v :: l).sum = (x :: l).sum - x + v
    rw [List.sum_cons, List.sum_cons]; omega
  | x :: l, i + 1, v, h => by
    have := sum_set l i v (by simpa using h)
    show (x :: l.set i v).sum = (x :: l).sum - l.getD i 0 + v
    rw [List.sum_cons, List.sum_cons, this]; omega
theorem sum_ge (m : Int) : ∀ (l : List Int), (∀ x ∈ l, m ≤ x) → (l.length : Int) * m ≤ l.sum
  | [], _ => by simp
  | x :: l, h => by
    have h1 := h x List.mem_cons_self
    have h2 := sum_ge m l fun y hy => h y (List.mem_cons_of_mem _ hy)
    rw [List.sum_cons, List.length_cons]
    have : ((l.length + 1 : Nat) : Int) * m = (l.length : Int) * m + m := by rw [Int.natCast_add, Int.add_mul]; simp
    omega
theorem step_pays {ns : List Int} {h t : Int} {n : Nat} (k : WOk ns h t) (l : ns.length = n) (t1 : 1 ≤ t) :
    1 ≤ prc (chW n h) h (goW ns (chW n h) t h) t ∧ 2 * (upW ns (chW n h) t).sum - (upW ns (chW n h) t).getD (goW ns (chW n h) t h).toNat 0 = 2 * ns.sum - ns.getD h.toNat 0 + prc (chW n h) h (goW ns (chW n h) t h) t := by
  have cl : (chW n h).length = ns.length := by rw [chW_len, l]
  have h0 := k.h0
  have h1 := k.h1
  have lo := k.lo
  have fne := frw_ne cl lo
  have fl := frw_len cl
  have hf := mn_is fne
  have nne : ns ≠ [] := by intro z; rw [z] at lo; simp at lo
  have hm := mn_is nne
  have at_ : ∀ j, j < n → (frw ns (chW n h)).getD j 0 = ns.getD j 0 + if (j : Int) = h then 1 else 0 := fun j hj => by rw [frw_at cl (by omega), chW_at hj]
  have mle : mn ns ≤ mn (frw ns (chW n h)) := by
    obtain ⟨j, hj, e⟩ := List.getElem_of_mem hf.1
    have a := at_ j (by omega)
    rw [List.getD_eq_getElem?_getD, List.getElem?_eq_getElem hj, Option.getD_some, e] at a
    have := hm.2 (ns.getD j 0) (mem_getD (by omega))
    split at a <;> omega
  have near : ∀ j, j < n → ns.getD j 0 ≤ mn ns + t := fun j hj => k.near _ (mem_getD (by omega))
  have ah := at_ h.toNat (by omega)
  rw [if_pos (by omega)] at ah
  have nh := near h.toNat (by omega)
  have upat : ∀ j, j < n → (upW ns (chW n h) t).getD j 0 = min (ns.getD j 0 + if (j : Int) = h then 1 else 0) (mn (frw ns (chW n h)) + t) := fun j hj => by rw [upW_at cl (by omega), at_ j hj]
  have ul : (upW ns (chW n h) t).length = n := by rw [upW_len cl, l]
  by_cases c : (frw ns (chW n h)).getD h.toNat 0 > mn (frw ns (chW n h)) + t
  · have eg : goW ns (chW n h) t h = (((frw ns (chW n h)).idxOf (mn (frw ns (chW n h))) : Nat) : Int) := by unfold goW; rw [if_pos c]
    have iq := List.idxOf_lt_length_iff.mpr hf.1
    have fq : (frw ns (chW n h)).getD ((frw ns (chW n h)).idxOf (mn (frw ns (chW n h)))) 0 = mn (frw ns (chW n h)) := by
      rw [List.getD_eq_getElem?_getD, List.getElem?_eq_getElem iq, Option.getD_some, List.getElem_idxOf]
    generalize hq : (frw ns (chW n h)).idxOf (mn (frw ns (chW n h))) = q at *
    have qn : q < n := by omega
    have qh : (q : Int) ≠ h := fun z => by
      have : h.toNat = q := by omega
      rw [this, fq] at c
      omega
    have aq := at_ q qn
    rw [if_neg qh, fq] at aq
    have ep : prc (chW n h) h (goW ns (chW n h) t h) t = t := by
      rw [eg]
      unfold prc
      rw [if_neg qh, Int.toNat_natCast, chW_at qn, if_neg qh]
      omega
    have eu : upW ns (chW n h) t = ns := by
      refine ext_getD (by rw [ul, l]) fun j hj => ?_
      rw [ul] at hj
      rw [upat j hj]
      have nj := near j hj
      by_cases z : (j : Int) = h
      · rw [if_pos z]
        have : h.toNat = j := by omega
        rw [this] at ah c nh
        omega
      · rw [if_neg z]
        omega
    rw [ep, eu, eg, Int.toNat_natCast]
    exact ⟨t1, by omega⟩
  · have eg : goW ns (chW n h) t h = h := by unfold goW; rw [if_neg c]
    have ep : prc (chW n h) h (goW ns (chW n h) t h) t = 1 := by
      rw [eg]
      unfold prc
      rw [if_pos rfl, chW_at (by omega), if_pos (by omega)]
    have eu : upW ns (chW n h) t = ns.set h.toNat (ns.getD h.toNat 0 + 1) := by
      refine ext_getD (by rw [ul, List.length_set, l]) fun j hj => ?_
      rw [ul] at hj
      rw [upat j hj, List.getD_eq_getElem?_getD (l := ns.set _ _), List.getElem?_set]
      have nj := near j hj
      by_cases z : (j : Int) = h
      · have e : h.toNat = j := by omega
        rw [if_pos z, if_pos e, if_pos (by omega), Option.getD_some]
        rw [e] at ah c ⊢
        omega
      · rw [if_neg z, if_neg (by omega), ← List.getD_eq_getElem?_getD]
        omega
    rw [ep, eg, eu, sum_set _ _ _ (by omega), List.getD_eq_getElem?_getD (l := ns.set _ _), List.getElem?_set, if_pos rfl, if_pos (by omega), Option.getD_some]
    exact ⟨Int.le_refl _, by omega⟩
theorem fst_rep (m : Nat) (t : Int) : fstW (m + 1) t 0 = 0 :: List.replicate m t := by
  unfold fstW
  rw [List.range_succ_eq_map, List.map_cons, List.map_map]
  congr 1
  refine List.ext_getElem (by simp) fun j h1 h2 => ?_
  simp
theorem fst_sum {n : Nat} {t : Int} (n1 : 1 ≤ n) : (fstW n t 0).sum = ((n : Int) - 1) * t ∧ (fstW n t 0).getD 0 0 = 0 := by
  refine ⟨?_, by rw [fst_at (by omega)]; exact if_pos rfl⟩
  obtain ⟨m, rfl⟩ : ∃ m, n = m + 1 := ⟨n - 1, by omega⟩
  have e : fstW (m + 1) t 0 = 0 :: List.replicate m t := by
    unfold fstW
    rw [List.range_succ_eq_map, List.map_cons, List.map_map]
    congr 1
    refine List.ext_getElem (by simp) fun j h1 h2 => ?_
    simp
  rw [e, List.sum_cons]
  have : ∀ m : Nat, (List.replicate m t).sum = (m : Int) * t := by
    intro m
    induction m with
    | zero => simp
    | succ m ih => rw [List.replicate_succ, List.sum_cons, ih, Int.natCast_add, Int.add_mul]; simp; omega
  rw [this, show ((m + 1 : Nat) : Int) - 1 = (m : Int) by omega]
  omega
theorem paid_all {n : Nat} {t : Int} (n1 : 1 ≤ n) (n8 : n ≤ 8) (t1 : 1 ≤ t) (t2 : t ≤ 1000000000000000000) : ∀ i : Nat, (i : Int) ≤ pdW n t i ∧ pdW n t i = 2 * (nsW n t i).sum - (nsW n t i).getD (haW n t i).toNat 0 - 2 * (((n : Int) - 1) * t)
  | 0 => by
    obtain ⟨s1, s2⟩ := fst_sum (t := t) n1
    refine ⟨Int.le_refl _, ?_⟩
    show (0 : Int) = 2 * (fstW n t 0).sum - (fstW n t 0).getD (0 : Int).toNat 0 - _
    rw [s1, show (0 : Int).toNat = 0 from rfl, s2]
    omega
  | i + 1 => by
    obtain ⟨i1, i2⟩ := paid_all n1 n8 t1 t2 i
    obtain ⟨k, l⟩ := stW_ok n1 n8 (show 0 ≤ t by omega) t2 i
    obtain ⟨p1, p2⟩ := step_pays k l t1
    have ep : pyW n t i = prc (chW n (haW n t i)) (haW n t i) (goW (nsW n t i) (chW n (haW n t i)) t (haW n t i)) t := rfl
    have e2 : (nsW n t (i + 1)) = upW (nsW n t i) (chW n (haW n t i)) t := rfl
    have e3 : haW n t (i + 1) = goW (nsW n t i) (chW n (haW n t i)) t (haW n t i) := rfl
    show ((i + 1 : Nat) : Int) ≤ pdW n t i + pyW n t i ∧ pdW n t i + pyW n t i = _
    rw [e2, e3, ep]
    omega
theorem mvW_mem {t b s : Int} {cs : List Int} (h0 : 0 ≤ s) (h1 : s < cs.length) : (s, prc cs b s t) ∈ mvW t cs b := by
  unfold mvW wmv
  exact List.mem_map.mpr ⟨s.toNat, List.mem_range.mpr (by omega), by show ((s.toNat : Int), prc cs b (s.toNat : Int) t) = _; rw [show (s.toNat : Int) = s by omega]⟩
theorem mvW_price {t b : Int} {cs : List Int} {m : Int × Int} (h : m ∈ mvW t cs b) : m.2 = prc cs b m.1 t := by
  unfold mvW wmv at h
  obtain ⟨i, _, rfl⟩ := List.mem_map.mp h
  rfl
theorem num_way {n : Nat} {t : Int} (n1 : 1 ≤ n) (n8 : n ≤ 8) (t0 : 0 ≤ t) (t2 : t ≤ 1000000000000000000) : ∀ i (s : Nat), s < n → ∃ ws q, WayR 0 ((wsW n t i).map (mvW t)) ws q ∧ q + (if lastL 0 ws = (s : Int) then 0 else t) ≤ (nsW n t i).getD s 0
  | 0, s, hs => by
    refine ⟨[], 0, .nil, ?_⟩
    show (0 : Int) + (if (0 : Int) = (s : Int) then 0 else t) ≤ (fstW n t 0).getD s 0
    rw [fst_at hs]
    by_cases z : (0 : Int) = (s : Int)
    · rw [if_pos z, if_pos z.symm]; omega
    · rw [if_neg z, if_neg (fun q => z q.symm)]; omega
  | i + 1, s, hs => by
    obtain ⟨k, l⟩ := stW_ok n1 n8 t0 t2 i
    have cl : (wiW n t i).length = (nsW n t i).length := by rw [l]; exact chW_len _ _
    have fl := frw_len cl
    have hf := mn_is (frw_ne cl k.lo)
    have go : ∀ y : Nat, y < n → ∃ ws q, WayR 0 ((wsW n t (i + 1)).map (mvW t)) ws q ∧ lastL 0 ws = (y : Int) ∧ q ≤ (frw (nsW n t i) (wiW n t i)).getD y 0 := fun y hy => by
      obtain ⟨ws, q, hw, hq⟩ := num_way n1 n8 t0 t2 i y hy
      have lw : (wiW n t i).length = n := chW_len _ _
      have hm := mvW_mem (t := t) (b := lastL 0 ws) (s := (y : Int)) (cs := wiW n t i) (by omega) (by omega)
      refine ⟨ws ++ [(y : Int)], _, by rw [wsW_succ, List.map_append]; exact way_snoc hw hm, lastL_snoc _ _ _, ?_⟩
      rw [frw_at cl (by omega)]
      unfold prc
      rw [Int.toNat_natCast]
      by_cases z : (y : Int) = lastL 0 ws
      · rw [if_pos z]; rw [if_pos z.symm] at hq; omega
      · rw [if_neg z]; rw [if_neg (fun w => z w.symm)] at hq; omega
    have eu : (nsW n t (i + 1)).getD s 0 = min ((frw (nsW n t i) (wiW n t i)).getD s 0) (mn (frw (nsW n t i) (wiW n t i)) + t) := upW_at cl (by omega)
    rw [eu]
    by_cases c : (frw (nsW n t i) (wiW n t i)).getD s 0 ≤ mn (frw (nsW n t i) (wiW n t i)) + t
    · obtain ⟨ws, q, hw, hl, hq⟩ := go s hs
      exact ⟨ws, q, hw, by rw [if_pos hl]; omega⟩
    · obtain ⟨y, hy, e⟩ := List.getElem_of_mem hf.1
      obtain ⟨ws, q, hw, hl, hq⟩ := go y (by omega)
      rw [List.getD_eq_getElem?_getD, List.getElem?_eq_getElem hy, Option.getD_some, e] at hq
      refine ⟨ws, q, hw, ?_⟩
      split <;> omega
def plW (t : Int) : Int → List (List Int) → List Int → Int
  | _, [], _ => 0
  | _, _, [] => 0
  | b, c :: cs, s :: ss => prc c b s t + plW t s cs ss
theorem way_plW {t : Int} : ∀ {Ls : List (List Int)} {b : Int} {ws : List Int} {q : Int}, WayR b (Ls.map (mvW t)) ws q → plW t b Ls ws = q ∧ ∀ i, i < ws.length → 0 ≤ ws.getD i 0 ∧ ws.getD i 0 < (Ls.getD i []).length
  | [], _, _, _, h => by cases h; exact ⟨rfl, fun i hi => by simp at hi⟩
  | c :: cs, b, _, _, h => by
    cases h with
    | @cons _ s p q _ _ ws hm hw =>
      obtain ⟨i1, i2⟩ := way_plW hw
      have hp := mvW_price hm
      have ha := mvW_at hm
      refine ⟨by show prc c b s t + plW t s cs ws = p + q; rw [i1]; have : p = prc c b s t := hp; omega, fun i hi => ?_⟩
      cases i with
      | zero => exact ha
      | succ i => exact i2 i (by simpa using hi)
theorem enemy_ways {n : Nat} {t : Int} (n1 : 1 ≤ n) (n8 : n ≤ 8) (t1 : 1 ≤ t) (t2 : t ≤ 1000000000000000000) (m : Nat) (hne : (allR [((0 : Int), (0 : Int), (none : Option Int))] ((wsW n t m).map (mvW t))).getD ((wsW n t m).map (mvW t)).length [] ≠ []) :
    (2 * (n : Int) - 1) * beI 0 ((wsW n t m).map (mvW t)) ≤ pdW n t m + 2 * ((n : Int) - 1) * t := by
  obtain ⟨_, p2⟩ := paid_all n1 n8 t1 t2 m
  obtain ⟨k, l⟩ := stW_ok n1 n8 (show 0 ≤ t by omega) t2 m
  have nne : nsW n t m ≠ [] := by intro z; rw [z] at l; simp at l; omega
  have hm := mn_is nne
  have le : beI 0 ((wsW n t m).map (mvW t)) ≤ mn (nsW n t m) := by
    obtain ⟨y, hy, e⟩ := List.getElem_of_mem hm.1
    obtain ⟨ws, q, hw, hq⟩ := num_way n1 n8 (show 0 ≤ t by omega) t2 m y (by omega)
    have := (best_way hne).2 ws q hw
    rw [List.getD_eq_getElem?_getD, List.getElem?_eq_getElem hy, Option.getD_some, e] at hq
    split at hq <;> omega
  have h0 := k.h0
  have h1 := k.h1
  have g1 := sum_ge (mn (nsW n t m)) (nsW n t m) hm.2
  have g2 := sum_ge (mn (nsW n t m)) ((nsW n t m).set (haW n t m).toNat (mn (nsW n t m))) fun x hx => by
    rcases List.mem_or_eq_of_mem_set hx with h | h
    · exact hm.2 x h
    · omega
  rw [List.length_set, sum_set _ _ _ (by omega)] at g2
  rw [l] at g1 g2
  have e : (2 * (n : Int) - 1) * beI 0 ((wsW n t m).map (mvW t)) ≤ (2 * (n : Int) - 1) * mn (nsW n t m) := Int.mul_le_mul_of_nonneg_left le (by omega)
  have e2 : (2 * (n : Int) - 1) * mn (nsW n t m) = 2 * ((n : Int) * mn (nsW n t m)) - mn (nsW n t m) := by rw [Int.sub_mul, Int.mul_assoc]; omega
  have e3 : 2 * ((n : Int) - 1) * t = 2 * (((n : Int) - 1) * t) := Int.mul_assoc ..
  omega
def sp_law_whole : Sp := fun vs H Q _ => ∃ x k, vs = [x] ∧ HasK H x k ∧ Q (.bl (k == .int)) H
theorem ok_law_whole (T : Txt K mg a) : FnOk P w K mg base (CXU P w) 1 a.f_law_whole a.d_law_whole ["_law_found"] (sp_law_whole) := by
  refine T.F_law_whole.okU sc_law_whole (fun vs H Q E h => ?_) (fun cdv A outer s H vs Q E hr h => ?_)
  · obtain ⟨x, k, rfl, hk, hq⟩ := h
    rfl
  · obtain ⟨x, k, rfl, hk, hq⟩ := h
    refine ⟨_, (pss_one (ps_ret (pe_and (pe_callB cIsin (by rfl) T.n_isinstance PyProof.Rows.boot_isinstance (pa_cons (pv 0) (pa_cons (pe_bltn (v := V.ty "int") (by rfl) T.n_int PyProof.Rows.boot_int rfl) pa_nil))) (pe_one (pe_not (pe_callB cIsin (by rfl) T.n_isinstance PyProof.Rows.boot_isinstance (pa_cons (pv 0) (pa_cons (pe_bltn (v := V.ty "bool") (by rfl) T.n_bool PyProof.Rows.boot_bool rfl) pa_nil)))))))), ?_⟩
    repeat walk_at "vs"
    refine r_isI hk ?_
    cases k <;> (repeat walk_at "vs") <;> first | exact hq | (refine r_isB hk ?_; (repeat walk_at "vs"); exact hq)
def sp_law_same (n : Nat) : Sp := fun vs H Q _ => ∃ x y d1 d2, vs = [x, y] ∧ Rep H d1 x ∧ Rep H d2 y ∧ d2.fine = true ∧ d2.depth ≤ n ∧ ∀ b H', (b = true ↔ d1 = d2) → Ext H H' → Q (.bl b) H'
def sp_law_all_same (n : Nat) : Sp := fun vs H Q _ => ∃ p q xs ys ds es, vs = [.ref p, .ref q] ∧ H p = some (.lst xs) ∧ H q = some (.lst ys) ∧ RepL H ds xs ∧ RepL H es ys ∧ D.fineL es = true ∧ D.depthL es ≤ n ∧ xs.length = ys.length ∧
  ∀ b H', (b = true ↔ ds = es) → Ext H H' → Q (.bl b) H'
theorem all_same_of {n k : Nat} (T : Txt K mg a) (G : FnOk P w K mg base (CXU P w) k a.f_law_same a.d_law_same ["_law_found", "_law_due"] (sp_law_same n)) :
    FnOk P w K mg base (CXU P w) (k + 1) a.f_law_all_same a.d_law_all_same ["_law_found", "_law_due"] (sp_law_all_same n) := by
  refine T.F_law_all_same.okU sc_law_all_same (fun vs H Q E h => ?_) (fun cdv A outer s H vs Q E hr h => ?_)
  · obtain ⟨p, q, xs, ys, ds, es, rfl, _⟩ := h
    rfl
  · obtain ⟨p, q, xs, ys, ds, es, rfl, hp, hq', hd, he, hf, hn, hl, hq⟩ := h
    refine ⟨_, (pss_cons (ps_for PassesOwn.never rfl (pi_zip2 rfl T.n_zip (pa_cons (pv 0) (pa_cons (pv 1) pa_nil))) (pg_tup rfl (pgs_cons (pg_name (i := 2) sc_law_all_same.nd rfl (by first | exact Or.inl rfl | exact Or.inr rfl)) (pgs_cons (pg_name (i := 3) sc_law_all_same.nd rfl (by first | exact Or.inl rfl | exact Or.inr rfl)) pgs_nil))) (pss_one (ps_if (pt_not (ptT (pe_call (G) hr (by rfl) T.m_law_same T.F_law_same.kp T.b_law_same .nil passU (pa_cons (pv 2) (pa_cons (pv 3) pa_nil))) (fun _ => rfl))) (pss_one (ps_ret pe_bl)) pss_nil)))
      (pss_one (ps_ret pe_bl))), ?_⟩
    have l1 := hd.length
    have l2 := he.length
    repeat walk_at "vs"
    refine ⟨p, q, xs, ys, false, false, rfl, SqL.of hp, SqL.of hq', for_zip2 (fun i σ H2 => (∃ u v, σ = [some (.ref p), some (.ref q), u, v]) ∧ Ext H H2 ∧ ds.take i = es.take i) hl ⟨⟨none, none, rfl⟩, Ext.rfl', rfl⟩ (fun i σ H2 _ ⟨_, e, _⟩ => ⟨SqL.of (e _ _ hp), SqL.of (e _ _ hq')⟩) ?_ ?_⟩
    · rintro i x y σ H2 r hx hy ⟨⟨u, v, rfl⟩, e, ht⟩ hr0
      obtain ⟨d, d1, d2⟩ := hd.get hx
      obtain ⟨f, f1, f2⟩ := he.get hy
      refine r_gtup upd_same rfl ?_
      repeat walk_at "vs"
      have e2 : Ext H (upd H2 r (.tup [x, y])) := e.tr (ext_upd hr0)
      refine ⟨x, y, d, f, rfl, d2.mono e2, f2.mono e2, fineL_of hf f1, depthL_le hn f1, fun b H3 hb e3 => ?_⟩
      repeat walk_at "vs"
      cases b with
      | true =>
        repeat walk_at "vs"
        refine ⟨⟨_, _, rfl⟩, e2.tr e3, ?_⟩
        rw [List.take_add_one, List.take_add_one, d1, f1, ht, hb.mp rfl]
      | false =>
        repeat walk_at "vs"
        refine hq false H3 ⟨fun z => Bool.noConfusion z, fun z => ?_⟩ (e2.tr e3)
        subst z
        rw [d1] at f1
        cases f1
        exact hb.mpr rfl
    · rintro σ H2 ⟨⟨u, v, rfl⟩, e, ht⟩
      repeat walk_at "vs"
      refine hq true H2 ⟨fun _ => ?_, fun _ => rfl⟩ e
      rw [List.take_of_length_le (by omega), List.take_of_length_le (by omega)] at ht
      exact ht
theorem same_of {n k : Nat} {spA : Sp} (T : Txt K mg a) (hA : ∀ vs H Q E, (∃ m, n = m + 1 ∧ sp_law_all_same m vs H Q E) → spA vs H Q E) (GA : FnOk P w K mg base (CXU P w) (k + 1) a.f_law_all_same a.d_law_all_same ["_law_found", "_law_due"] spA) :
    FnOk P w K mg base (CXU P w) (k + 2) a.f_law_same a.d_law_same ["_law_found", "_law_due"] (sp_law_same n) := by
  refine T.F_law_same.okU sc_law_same (fun vs H Q E h => ?_) (fun cdv A outer s H vs Q E hr h => ?_)
  · obtain ⟨x, y, d1, d2, rfl, _⟩ := h
    rfl
  · obtain ⟨x, y, d1, d2, rfl, h1, h2, hf, hn, hq⟩ := h
    refine ⟨_, (pss_cons (ps_if (ptT (pe_callB cIsin (by rfl) T.n_isinstance PyProof.Rows.boot_isinstance (pa_cons (pv 1) (pa_cons (pe_bltn (v := V.ty "tuple") (by rfl) T.n_tuple PyProof.Rows.boot_tuple rfl) pa_nil))) (fun _ => rfl)) (pss_one (ps_ret (pe_and (pe_callB cIsin (by rfl) T.n_isinstance PyProof.Rows.boot_isinstance (pa_cons (pv 0) (pa_cons (pe_bltn (v := V.ty "tuple") (by rfl) T.n_tuple PyProof.Rows.boot_tuple rfl) pa_nil))) (pe_and (pe_cmpR (oEq hr) (pe_callB cLen (by rfl) T.n_len PySem.boot_len (pa_cons (pv 0) pa_nil)) (pe_callB cLen (by rfl) T.n_len PySem.boot_len (pa_cons (pv 1) pa_nil)) (nomark _)) (pe_one (pe_call (GA) (hr.mono (by omega)) (by rfl) T.m_law_all_same T.F_law_all_same.kp T.b_law_all_same .nil passU (pa_cons (pe_callTy cList (by rfl) T.n_list PyProof.Rows.boot_list (pa_cons (pv 0) pa_nil)) (pa_cons (pe_callTy cList (by rfl) T.n_list PyProof.Rows.boot_list (pa_cons (pv 1) pa_nil)) pa_nil)))))))) pss_nil)
      (pss_cons (ps_if (ptT (pe_callB cIsin (by rfl) T.n_isinstance PyProof.Rows.boot_isinstance (pa_cons (pv 1) (pa_cons (pe_bltn (v := V.ty "list") (by rfl) T.n_list PyProof.Rows.boot_list rfl) pa_nil))) (fun _ => rfl)) (pss_one (ps_ret (pe_and (pe_callB cIsin (by rfl) T.n_isinstance PyProof.Rows.boot_isinstance (pa_cons (pv 0) (pa_cons (pe_bltn (v := V.ty "list") (by rfl) T.n_list PyProof.Rows.boot_list rfl) pa_nil))) (pe_and (pe_cmpR (oEq hr) (pe_callB cLen (by rfl) T.n_len PySem.boot_len (pa_cons (pv 0) pa_nil)) (pe_callB cLen (by rfl) T.n_len PySem.boot_len (pa_cons (pv 1) pa_nil)) (nomark _)) (pe_one (pe_call (GA) (hr.mono (by omega)) (by rfl) T.m_law_all_same T.F_law_all_same.kp T.b_law_all_same .nil passU (pa_cons (pv 0) (pa_cons (pv 1) pa_nil)))))))) pss_nil)
      (pss_cons (ps_if (ptT (pe_callB cIsin (by rfl) T.n_isinstance PyProof.Rows.boot_isinstance (pa_cons (pv 1) (pa_cons (pe_bltn (v := V.ty "bool") (by rfl) T.n_bool PyProof.Rows.boot_bool rfl) pa_nil))) (fun _ => rfl)) (pss_one (ps_ret (pe_and (pe_callB cIsin (by rfl) T.n_isinstance PyProof.Rows.boot_isinstance (pa_cons (pv 0) (pa_cons (pe_bltn (v := V.ty "bool") (by rfl) T.n_bool PyProof.Rows.boot_bool rfl) pa_nil))) (pe_one (pe_cmpR (oEq hr) (pv 0) (pv 1) (nomark _)))))) pss_nil)
      (pss_cons (ps_if (pt_cmpR oIsN (pv 1) pe_non (nomark _)) (pss_one (ps_ret (pe_cmpR oIsN (pv 0) pe_non (nomark _)))) pss_nil)
      (pss_cons (ps_if (ptT (pe_callB cIsin (by rfl) T.n_isinstance PyProof.Rows.boot_isinstance (pa_cons (pv 1) (pa_cons (pe_bltn (v := V.ty "str") (by rfl) T.n_str PyProof.Rows.boot_str rfl) pa_nil))) (fun _ => rfl)) (pss_one (ps_ret (pe_and (pe_callB cIsin (by rfl) T.n_isinstance PyProof.Rows.boot_isinstance (pa_cons (pv 0) (pa_cons (pe_bltn (v := V.ty "str") (by rfl) T.n_str PyProof.Rows.boot_str rfl) pa_nil))) (pe_one (pe_cmpR (oEq hr) (pv 0) (pv 1) (nomark _)))))) pss_nil)
      (pss_one (ps_ret (pe_and (pe_call (ok_law_whole T) (hr.mono (by omega)) (by rfl) T.m_law_whole T.F_law_whole.kp T.b_law_whole .nil passU (pa_cons (pv 0) pa_nil)) (pe_one (pe_cmpR (oEq hr) (pv 0) (pv 1) (nomark _))))))))))), ?_⟩
    have k1 := h1.kd
    have k2 := h2.kd
    have no : ∀ {B : Prop}, ¬ B → (false = true ↔ B) := fun nb => ⟨fun z => Bool.noConfusion z, fun z => (nb z).elim⟩
    repeat walk_at "vs"
    refine r_isT k2 ?_
    cases d2 with
    | tup es =>
      repeat walk_at "vs"
      refine r_isT k1 ?_
      cases d1 with
      | tup ds =>
        obtain ⟨p, xs, rfl, hp, hd⟩ := h1
        obtain ⟨q, ys, rfl, hq', he⟩ := h2
        repeat walk_at "vs"
        refine r_lenT hp ?_
        repeat walk_at "vs"
        refine r_lenT hq' ?_
        repeat walk_at "vs"
        refine iteD (fun hl => ?_) (fun hl => ?_)
        · repeat walk_at "vs"
          refine r_listT hp fun p2 H2 n2 hp2 e2 => ?_
          repeat walk_at "vs"
          refine r_listT (e2 _ _ hq') fun q2 H3 n3 hq3 e3 => ?_
          repeat walk_at "vs"
          have hn' : D.depthL es + 1 ≤ n := hn
          refine hA _ _ _ _ ⟨n - 1, by omega, p2, q2, xs, ys, ds, es, rfl, e3 _ _ hp2, hq3, hd.mono (e2.tr e3), he.mono (e2.tr e3), hf, by omega, by omega, fun b H4 hb e4 => ?_⟩
          exact hq b H4 (hb.trans ⟨fun z => by rw [z], fun z => by cases z; rfl⟩) ((e2.tr e3).tr e4)
        · repeat walk_at "vs"
          refine hq false H (no fun z => hl ?_) Ext.rfl'
          cases z
          have l1 := hd.length
          have l2 := he.length
          omega
      | _ =>
        repeat walk_at "vs"
        exact hq false H (no fun z => by cases z) Ext.rfl'
    | lst es =>
      repeat walk_at "vs"
      refine r_isL k2 ?_
      repeat walk_at "vs"
      refine r_isL k1 ?_
      cases d1 with
      | lst ds =>
        obtain ⟨p, xs, rfl, hp, hd⟩ := h1
        obtain ⟨q, ys, rfl, hq', he⟩ := h2
        repeat walk_at "vs"
        refine r_lenL hp ?_
        repeat walk_at "vs"
        refine r_lenL hq' ?_
        repeat walk_at "vs"
        refine iteD (fun hl => ?_) (fun hl => ?_)
        · repeat walk_at "vs"
          have hn' : D.depthL es + 1 ≤ n := hn
          refine hA _ _ _ _ ⟨n - 1, by omega, p, q, xs, ys, ds, es, rfl, hp, hq', hd, he, hf, by omega, by omega, fun b H4 hb e4 => ?_⟩
          exact hq b H4 (hb.trans ⟨fun z => by rw [z], fun z => by cases z; rfl⟩) e4
        · repeat walk_at "vs"
          refine hq false H (no fun z => hl ?_) Ext.rfl'
          cases z
          have l1 := hd.length
          have l2 := he.length
          omega
      | _ =>
        repeat walk_at "vs"
        exact hq false H (no fun z => by cases z) Ext.rfl'
    | bl c =>
      cases (show y = .bl c from h2)
      repeat walk_at "vs"
      refine r_isL k2 ?_
      repeat walk_at "vs"
      refine r_isB k2 ?_
      repeat walk_at "vs"
      refine r_isB k1 ?_
      cases d1 with
      | bl c1 =>
        cases (show x = .bl c1 from h1)
        repeat walk_at "vs"
        refine r_eqUB (hq _ H ?_ Ext.rfl')
        rw [decide_eq_true_iff]
        exact ⟨fun z => by rw [z], fun z => by cases z; rfl⟩
      | _ =>
        repeat walk_at "vs"
        exact hq false H (no fun z => by cases z) Ext.rfl'
    | non =>
      cases (show y = .non from h2)
      repeat walk_at "vs"
      refine r_isL k2 ?_
      repeat walk_at "vs"
      refine r_isB k2 ?_
      repeat walk_at "vs"
      refine hq _ H ?_ Ext.rfl'
      rw [decide_eq_true_iff]
      cases d1 with
      | non => exact ⟨fun _ => rfl, fun _ => h1⟩
      | bl c1 => cases (show x = .bl c1 from h1); exact ⟨fun z => (by cases z), fun z => (by cases z)⟩
      | int c1 => cases (show x = .int c1 from h1); exact ⟨fun z => (by cases z), fun z => (by cases z)⟩
      | str c1 => cases (show x = .str c1 from h1); exact ⟨fun z => (by cases z), fun z => (by cases z)⟩
      | tup c1 => obtain ⟨_, _, rfl, _⟩ := h1; exact ⟨fun z => (by cases z), fun z => (by cases z)⟩
      | lst c1 => obtain ⟨_, _, rfl, _⟩ := h1; exact ⟨fun z => (by cases z), fun z => (by cases z)⟩
      | dct => obtain ⟨_, _, rfl, _⟩ := h1; exact ⟨fun z => (by cases z), fun z => (by cases z)⟩
    | str c =>
      cases (show y = .str c from h2)
      repeat walk_at "vs"
      refine r_isL k2 ?_
      repeat walk_at "vs"
      refine r_isB k2 ?_
      repeat walk_at "vs"
      refine r_isS k2 ?_
      repeat walk_at "vs"
      refine r_isS k1 ?_
      cases d1 with
      | str c1 =>
        cases (show x = .str c1 from h1)
        repeat walk_at "vs"
        refine r_eqUS (hq _ H ?_ Ext.rfl')
        rw [decide_eq_true_iff]
        exact ⟨fun z => by rw [z], fun z => by cases z; rfl⟩
      | _ =>
        repeat walk_at "vs"
        exact hq false H (no fun z => by cases z) Ext.rfl'
    | int c =>
      cases (show y = .int c from h2)
      repeat walk_at "vs"
      refine r_isL k2 ?_
      repeat walk_at "vs"
      refine r_isB k2 ?_
      repeat walk_at "vs"
      refine r_isS k2 ?_
      repeat walk_at "vs"
      refine ⟨x, _, rfl, k1, ?_⟩
      cases d1 with
      | int c1 =>
        cases (show x = .int c1 from h1)
        repeat walk_at "vs"
        refine hq _ H ?_ Ext.rfl'
        rw [decide_eq_true_iff]
        exact ⟨fun z => by rw [z], fun z => by cases z; rfl⟩
      | _ =>
        repeat walk_at "vs"
        exact hq false H (no fun z => by cases z) Ext.rfl'
    | dct => cases hf
theorem ok_same_n (T : Txt K mg a) : ∀ n : Nat, FnOk P w K mg base (CXU P w) (2 * n + 2) a.f_law_same a.d_law_same ["_law_found", "_law_due"] (sp_law_same n)
  | 0 => same_of (k := 0) (spA := fun _ _ _ _ => False) T (fun _ _ _ _ ⟨m, e, _⟩ => by omega) FnOk.no
  | n + 1 => by
    have G := all_same_of T (ok_same_n T n)
    have z := same_of (n := n + 1) (k := 2 * n + 2) (spA := sp_law_all_same n) T (fun _ _ _ _ ⟨m, e, h⟩ => by cases e; exact h) G
    exact z
theorem ok_law_same (T : Txt K mg a) : FnOk P w K mg base (CXU P w) 12 a.f_law_same a.d_law_same ["_law_found", "_law_due"] (sp_law_same 5) := ok_same_n T 5
theorem same_yes {x y : V} {d : D} {H : Hp} {Q : VK} {E : XK} (h1 : Rep H d x) (h2 : Rep H d y) (hf : d.fine = true) (hd : Nat.ble d.depth 5 = true) (hq : ∀ H', Ext H H' → Q (.bl true) H') : sp_law_same 5 [x, y] H Q E :=
  ⟨x, y, d, d, rfl, h1, h2, hf, Nat.le_of_ble_eq_true hd, fun b H' hb e => by rw [hb.mpr rfl]; exact hq H' e⟩
def sp_Ways_price (a : Adr) : Sp := fun vs H Q _ => ∃ (w dw p : Addr) (cs : List Int) (n b f t : Int), vs = [.ref w, .int b, .ref p, .int f] ∧ H w = some (.ins a.c_Ways dw [("many", .int n), ("toll", .int t)]) ∧ H p = some (.tup (cs.map V.int)) ∧ 0 ≤ f ∧ f < cs.length ∧ Q (.int (prc cs b f t)) H
theorem ok_Ways_price (T : Txt K mg a) : FnOk P w K mg base (CXU P w) 1 a.f_Ways_price a.d_Ways_price ["self", "before", "wish", "after"] (sp_Ways_price a) := by
  refine T.F_Ways_price.okU sc_Ways_price (fun vs H Q E h => ?_) (fun cdv A outer s H vs Q E hr h => ?_)
  · obtain ⟨w, dw, p, cs, n, b, f, t, rfl, hw, hp, f0, f1, hq⟩ := h
    rfl
  · obtain ⟨w, dw, p, cs, n, b, f, t, rfl, hw, hp, f0, f1, hq⟩ := h
    have zc_Changer := T.cl_Changer
    have zn_Changer_reckoned := T.na_Changer_reckoned
    have zn_Changer_world := T.na_Changer_world
    have zn_Changer_standing := T.na_Changer_standing
    have zn_Changer_spent := T.na_Changer_spent
    have zc_Ways := T.cl_Ways
    have zn_Ways_many := T.na_Ways_many
    have zn_Ways_toll := T.na_Ways_toll
    refine ⟨_, (pss_one (ps_ret (pe_ifExp (pt_cmpR (oEq hr) (pv 3) (pv 1) (nomark _)) (pe_ix oIx (pv 2) (pv 3) (fun _ _ => rfl)) (pe_op oAddV (pe_ix oIx (pv 2) (pv 3) (fun _ _ => rfl)) (pe_fld (pv 0) rfl))))), ?_⟩
    unfold prc at hq
    have i1 := atI_ints (ns := cs) f0 f1
    repeat walk_at "vs"
    refine iteD (fun c => ?_) (fun c => ?_)
    · rw [if_pos c] at hq
      repeat walk_at "vs"
      refine r_ixT hp i1 ?_
      exact hq
    · rw [if_neg c] at hq
      repeat walk_at "vs"
      refine r_ixT hp i1 ?_
      repeat walk_at "vs"
      exact hq
def sp_World_priced (a : Adr) : Sp := fun vs H Q _ => ∃ (r dw c p : Addr) (cs : List Int) (n t b : Int), vs = [.ref r, .int b, .ref c, .ref p] ∧ H r = some (.ins a.c_Ways dw [("many", .int n), ("toll", .int t)]) ∧ H c = some (.tup (cs.map V.int)) ∧ H p = some (.lst ((numsN cs.length).map V.int)) ∧ cs.length ≤ 8 ∧ ∀ l ys H', H l = none → H' l = some (.lst ys) → RepL H' ((wmv cs b t cs.length).map pr2) ys → Ext H H' → Q (.ref l) H'
theorem ok_World_priced (T : Txt K mg a) : FnOk P w K mg base (CXU P w) 2 a.f_World_priced a.d_World_priced ["self", "before", "wish", "states"] (sp_World_priced a) := by
  refine T.F_World_priced.okU sc_World_priced (fun vs H Q E h => ?_) (fun cdv A outer s H vs Q E hr h => ?_)
  · obtain ⟨r, dw, c, p, cs, n, t, b, rfl, hr0, hc, hp, h8, hq⟩ := h
    rfl
  · obtain ⟨r, dw, c, p, cs, n, t, b, rfl, hr0, hc, hp, h8, hq⟩ := h
    have zc_Changer := T.cl_Changer
    have zn_Changer_reckoned := T.na_Changer_reckoned
    have zn_Changer_world := T.na_Changer_world
    have zn_Changer_standing := T.na_Changer_standing
    have zn_Changer_spent := T.na_Changer_spent
    have zc_Ways := T.cl_Ways
    have zn_Ways_many := T.na_Ways_many
    have zn_Ways_toll := T.na_Ways_toll
    refine ⟨_, (pss_cons (ps_setComp (i := 4) (["after"] : List Str) (["self", "before", "wish"] : List Str) [0, 1, 2] sc_World_priced.nd rfl (Or.inl rfl) rfl ⟨rfl, by decide +kernel, by decide +kernel, by rfl, ⟨⟨rfl, by first | exact Or.inl rfl | exact Or.inr rfl, by first | exact Or.inl rfl | exact Or.inr rfl⟩, ⟨rfl, by first | exact Or.inl rfl | exact Or.inr rfl, by first | exact Or.inl rfl | exact Or.inr rfl⟩, ⟨rfl, by first | exact Or.inl rfl | exact Or.inr rfl, by first | exact Or.inl rfl | exact Or.inr rfl⟩, trivial⟩⟩ (pi_list (pe_sortSet rfl (by rfl) T.n_sorted (by rfl) T.n_set (pa_cons (pv 3) pa_nil))) (fun _ _ _ _ => ⟨(pg_name (i := 0) (by show ((["after"] : List Str) ++ (["self", "before", "wish"] : List Str)).Nodup; decide +kernel) rfl (by first | exact Or.inl rfl | exact Or.inr rfl)), (show PTs _ [] [] from trivial), (pe_tup (pa_cons (pv 0) (pa_cons (pe_meth (pv 1) T.cl_Ways T.me_Ways_price (ok_Ways_price T) (hr.mono (by decide)) T.b_Ways_price .nil passU (pa_cons (pv 2) (pa_cons (pv 3) (pa_cons (pv 0) pa_nil)))) pa_nil)))⟩))
      (pss_one (ps_ret (pe_comp (["pair"] : List Str) ([] : List Str) [] rfl ⟨rfl, by decide +kernel, by decide +kernel, by rfl, trivial⟩ (pi_list (pv 4)) (fun _ _ _ _ => ⟨(pg_name (i := 0) (by show ((["pair"] : List Str) ++ ([] : List Str)).Nodup; decide +kernel) rfl (by first | exact Or.inl rfl | exact Or.inr rfl)), (show PTs _ [_] [_] from ⟨(pt_cmpR oNotN (pe_ix oIx (pv 0) pe_int (fun _ _ => rfl)) pe_non (nomark _)), trivial⟩), (pv 0)⟩))))), ?_⟩
    repeat walk_at "vs"
    refine r_sortSet hp h8 fun l1 H1 n1 q1 e1 => ?_
    have hr1 := e1 _ _ hr0
    have hc1 := e1 _ _ hc
    refine ⟨l1, rfl, ⟨_, SqL.of q1⟩, fun acc hn _ _ _ _ => comp_list (SqL.of q1) (by rw [List.length_map, numsN_len]; omega) hn (fun j ys H2 => RepL H2 ((wmv cs b t j).map pr2) ys) RepL.nil (fun _ _ _ _ k h => h.keep k) (fun j ys H' _ h => by have := h.length; rw [List.length_map, wmv_len] at this; omega) ?_ ?_⟩
    · rintro j y ys H2 hy e hrep Y N hY hN
      have hj : j < cs.length := by
        obtain ⟨z, _⟩ := List.getElem?_eq_some_iff.mp hy
        rw [List.length_map, numsN_len] at z
        exact z
      rw [List.getElem?_map, numsN_at _ _ hj] at hy
      cases hy
      repeat walk_at "vs"
      refine ⟨r, dw, c, cs, n, b, (j : Int), t, rfl, e _ _ hr1, e _ _ hc1, by omega, by omega, ?_⟩
      repeat walk_at "vs"
      intro q H3 nq qq eq
      refine hY _ _ eq ?_
      rw [wmv_succ]
      exact RepL.snoc (pr2_rep qq) (hrep.mono eq)
    rintro ys H2 e2 ha hrep
    rw [List.length_map, numsN_len] at hrep
    have hl := hrep.length
    rw [List.length_map, wmv_len] at hl
    repeat walk_at "vs"
    refine ⟨acc, rfl, ⟨_, SqL.of ha⟩, fun acc2 hn2 _ _ _ _ => comp_list (SqL.of ha) (by omega) hn2 (fun j zs _ => zs = ys.take j) rfl (fun _ _ _ _ _ h => h) (fun j ys H' _ h => by rw [h, List.length_take]; omega) ?_ ?_⟩
    · rintro j y zs H3 hy e rfl Y N hY hN
      obtain ⟨d, hd, hr⟩ := hrep.get hy
      rw [List.getElem?_map] at hd
      obtain ⟨⟨u, v⟩, hw, rfl⟩ := Option.map_eq_some_iff.mp hd
      obtain ⟨q, rfl, g⟩ := pr2_at hr
      repeat walk_at "vs"
      refine r_ixT (e _ _ g) rfl ?_
      repeat walk_at "vs"
      exact hY _ _ Ext.rfl' (by rw [List.take_add_one, hy]; rfl)
    rintro zs H3 e3 ha2 rfl
    rw [List.take_of_length_le (Nat.le_refl _)] at ha2
    have x2 := e1.tr e2
    exact hq acc2 _ H3 (x2.free hn2) ha2 (hrep.mono e3) (x2.tr e3)
def sp_Ways_moves (a : Adr) : Sp := fun vs H Q _ => ∃ (r dw c : Addr) (cs : List Int) (t b : Int), vs = [.ref r, .int b, .ref c] ∧ H r = some (.ins a.c_Ways dw [("many", .int cs.length), ("toll", .int t)]) ∧ H c = some (.tup (cs.map V.int)) ∧ cs.length ≤ 8 ∧ ∀ l ys H', H l = none → H' l = some (.lst ys) → RepL H' ((wmv cs b t cs.length).map pr2) ys → Ext H H' → Q (.ref l) H'
theorem ok_Ways_moves (T : Txt K mg a) : FnOk P w K mg base (CXU P w) 3 a.f_Ways_moves a.d_Ways_moves ["self", "before", "wish"] (sp_Ways_moves a) := by
  refine T.F_Ways_moves.okU sc_Ways_moves (fun vs H Q E h => ?_) (fun cdv A outer s H vs Q E hr h => ?_)
  · obtain ⟨r, dw, c, cs, t, b, rfl, hr0, hc, h8, hq⟩ := h
    rfl
  · obtain ⟨r, dw, c, cs, t, b, rfl, hr0, hc, h8, hq⟩ := h
    have zc_Changer := T.cl_Changer
    have zn_Changer_reckoned := T.na_Changer_reckoned
    have zn_Changer_world := T.na_Changer_world
    have zn_Changer_standing := T.na_Changer_standing
    have zn_Changer_spent := T.na_Changer_spent
    have zc_Ways := T.cl_Ways
    have zn_Ways_many := T.na_Ways_many
    have zn_Ways_toll := T.na_Ways_toll
    refine ⟨_, (pss_one (ps_ret (pe_meth (pv 0) T.cl_Ways T.me_Ways_priced (ok_World_priced T) (hr.mono (by decide)) T.b_World_priced .nil passU (pa_cons (pv 1) (pa_cons (pv 2) (pa_cons (pe_listRng rfl (by rfl) T.n_list (by rfl) T.n_range (pa_cons (pe_fld (pv 0) rfl) pa_nil)) pa_nil)))))), ?_⟩
    repeat walk_at "vs"
    refine r_listRng cs.length rfl (by omega) fun l1 H1 n1 q1 e1 => ?_
    repeat walk_at "vs"
    refine ⟨r, dw, c, l1, cs, _, t, b, rfl, e1 _ _ hr0, e1 _ _ hc, q1, h8, fun l ys H2 n2 q2 r2 e2 => ?_⟩
    exact hq l ys H2 (e1.free n2) q2 r2 (e1.tr e2)
def sp_reached (a : Adr) : Sp := fun vs H Q _ => ∃ (w dw d c : Addr) (o : Obj) (kvs : List (Key × V)) (r : Row Int) (cs : List Int) (t : Int), vs = [.ref w, .ref d, .ref c] ∧ H w = some (.ins a.c_Ways dw [("many", .int cs.length), ("toll", .int t)]) ∧ H d = some (.frz o (.dK kvs)) ∧ RowI H kvs r ∧ (r.map (·.1)).Nodup ∧ H c = some (.tup (cs.map V.int)) ∧ cs.length ≤ 8 ∧
  ∀ d' o' kvs' H', H d' = none → H' d' = some (.frz o' (.dK kvs')) → RowI H' kvs' (reachR (mvW t cs) r) → Ext H H' → Q (.ref d') H'
theorem ok_reached (T : Txt K mg a) : FnOk P w K mg base (CXU P w) 4 a.f_reached a.d_reached ["world", "row", "wish"] (sp_reached a) := by
  refine T.F_reached.okU sc_reached (fun vs H Q E h => ?_) (fun cdv A outer s H vs Q E hr h => ?_)
  · obtain ⟨w, dw, d, c, o, kvs, r, cs, t, rfl, hw, hd, hR, nd, hc, h8, hq⟩ := h
    rfl
  · obtain ⟨w, dw, d, c, o, kvs, r, cs, t, rfl, hw, hd, hR, nd, hc, h8, hq⟩ := h
    have zc_Changer := T.cl_Changer
    have zn_Changer_reckoned := T.na_Changer_reckoned
    have zn_Changer_world := T.na_Changer_world
    have zn_Changer_standing := T.na_Changer_standing
    have zn_Changer_spent := T.na_Changer_spent
    have zc_Ways := T.cl_Ways
    have zn_Ways_many := T.na_Ways_many
    have zn_Ways_toll := T.na_Ways_toll
    refine ⟨_, (pss_cons (ps_set (i := 3) sc_reached.nd rfl (by first | exact Or.inl rfl | exact Or.inr rfl) pe_dnewK)
      (pss_cons (ps_for PassesOwn.never rfl (pi_dK (pv 1)) (pg_name (i := 4) sc_reached.nd rfl (by first | exact Or.inl rfl | exact Or.inr rfl)) (pss_cons (ps_set (i := 5) sc_reached.nd rfl (by first | exact Or.inl rfl | exact Or.inr rfl) (pe_ix oIx (pe_dgetR hr (pv 1) (pv 4) (fun _ _ => rfl)) pe_int (fun _ _ => rfl)))
      (pss_one (ps_for PassesOwn.never rfl (pi_list (pe_meth (pv 0) T.cl_Ways T.me_Ways_moves (ok_Ways_moves T) (hr.mono (by decide)) T.b_Ways_moves .nil passU (pa_cons (pv 4) (pa_cons (pv 2) pa_nil)))) (pg_tup rfl (pgs_cons (pg_name (i := 6) sc_reached.nd rfl (by first | exact Or.inl rfl | exact Or.inr rfl)) (pgs_cons (pg_name (i := 7) sc_reached.nd rfl (by first | exact Or.inl rfl | exact Or.inr rfl)) pgs_nil))) (pss_one (ps_if (PW.pt (pw_or (pt_cmpR (op_ninK hr) (pv 6) (pv 3) (by with_unfolding_all rfl)) (pw_or1 (pt_cmpR op_lt (pe_op oAddV (pv 5) (pv 7)) (pe_ix oIx (pe_dgetR hr (pv 3) (pv 6) (fun _ _ => rfl)) pe_int (fun _ _ => rfl)) (nomark _))))) (pss_one (ps_dputR hr (pv 3) (pv 6) (pe_tup (pa_cons (pe_op oAddV (pv 5) (pv 7)) (pa_cons (pv 4) pa_nil))) rfl)) pss_nil))))))
      (pss_cons (ps_if (pt_cmpR op_gt (pe_callB cLenK (by rfl) T.n_len PySem.boot_len (pa_cons (pv 3) pa_nil)) (pe_glob (v := V.int 60) (by rfl) T.m_MOST_STATES ⟨_, rfl⟩) (nomark _)) (pss_one ps_never) pss_nil)
      (pss_one (ps_ret (pe_frz (pv 3))))))), ?_⟩
    repeat walk_at "vs"
    intro fd H1 n1 q1 e1
    repeat walk_at "vs"
    refine r_idK ?_
    repeat walk_at "vs"
    refine ⟨d, o, kvs, rfl, e1 _ _ hd, for_dK (Pv := fun i σ H3 => ∃ (u1 u2 u3 u4 : Option V) (kf : List (Key × V)), σ = [some (.ref w), some (.ref d), some (.ref c), some (.ref fd), u1, u2, u3, u4] ∧ Ext H H3 ∧ H3 fd = some (.dK kf) ∧ RowI H3 kf ((r.take i).foldl (overR (mvW t cs)) []) ∧ AccI cs.length ((r.take i).foldl (overR (mvW t cs)) [])) ⟨none, none, none, none, [], rfl, e1, q1, .nil, ⟨List.nodup_nil, fun s hs => by cases hs⟩⟩ (fun i σ H3 _ h => by obtain ⟨_, _, _, _, _, _, x, _⟩ := h; exact x _ _ hd) ?_ ?_⟩
    · rintro i kv σ H3 hkv ⟨u1, u2, u3, u4, kf, rfl, x3, qf, rf, ac⟩
      obtain ⟨s, q, p, b, bv, er, rfl, hq0, hbv⟩ := hR.at i kv hkv
      have hmem := List.mem_of_getElem? er
      have gs := getR_of nd hmem
      obtain ⟨q', p', b', bv', v1, v2, v3, v4⟩ : ∃ q' p' b' bv', valV kvs (kI s) = some (.ref q') ∧ getR r s = some (p', b') ∧ H q' = some (.tup [.int p', bv']) ∧ bfV svI H b' bv' := by
        rcases hR.val kI_inj s with ⟨_, z⟩ | z
        · rw [gs] at z; cases z
        · exact z
      rw [gs] at v2
      cases v2
      have et : r.take (i + 1) = r.take i ++ [(s, p, b)] := by rw [List.take_add_one, er]; rfl
      generalize hacc : (r.take i).foldl (overR (mvW t cs)) [] = acc at *
      show gName 4 (V.int s) _ _ _
      repeat walk_at "vs"
      refine r_dgetI (.inr ⟨o, x3 _ _ hd⟩) v1 ?_
      repeat walk_at "vs"
      refine r_ixT (x3 _ _ v3) rfl ?_
      have hw3 := x3 _ _ hw
      repeat walk_at "vs"
      refine ⟨w, dw, c, cs, t, s, rfl, hw3, x3 _ _ hc, h8, fun l ys H4 n4 q4 r4 e4 => ?_⟩
      have l4 := r4.length
      rw [List.length_map, wmv_len] at l4
      have qf4 := e4 _ _ qf
      have nlf : l ≠ fd := (ne_of_none qf n4).symm
      repeat walk_at "vs"
      refine ⟨l, rfl, ⟨_, SqL.of q4⟩, for_list (xs := ys) (fun j σ H5 => ∃ (u3 u4 : Option V) (kf : List (Key × V)), σ = [some (.ref w), some (.ref d), some (.ref c), some (.ref fd), some (.int s), some (.int p), u3, u4] ∧ But fd H4 H5 ∧ H5 fd = some (.dK kf) ∧ RowI H5 kf (((mvW t cs s).take j).foldl (stepR p s) acc) ∧ AccI cs.length (((mvW t cs s).take j).foldl (stepR p s) acc)) ⟨_, _, kf, rfl, fun b o _ h => h, qf4, rowI_mono (tk_ext e4) rf, ac⟩ (fun j σ H5 _ h => by obtain ⟨_, _, _, _, b5, _⟩ := h; exact SqL.of (b5 _ _ nlf q4)) ?_ ?_⟩
      · rintro j y σ H5 hy ⟨u3, u4, kf, rfl, b5, q5, r5, a5⟩
        obtain ⟨dd, hdd, hr⟩ := r4.get hy
        rw [List.getElem?_map] at hdd
        obtain ⟨⟨m1, m2⟩, hm, rfl⟩ := Option.map_eq_some_iff.mp hdd
        obtain ⟨qy, rfl, gy⟩ := pr2_at hr
        have gy5 := b5 _ _ (ne_of gy qf4 (by intro z; cases z)) gy
        have hm' : (mvW t cs s)[j]? = some (m1, m2) := hm
        obtain ⟨m10, m11⟩ := mvW_at (List.mem_of_getElem? hm')
        have em : (mvW t cs s).take (j + 1) = (mvW t cs s).take j ++ [(m1, m2)] := by rw [List.take_add_one, hm']; rfl
        have ef : ((mvW t cs s).take (j + 1)).foldl (stepR p s) acc = stepR p s (((mvW t cs s).take j).foldl (stepR p s) acc) (m1, m2) := by rw [em, List.foldl_append]; rfl
        have a6 := a5.step (p := p) (b := s) (m := (m1, m2)) m10 m11
        generalize hac2 : ((mvW t cs s).take j).foldl (stepR p s) acc = acc2 at *
        have lk : kf.length < 1000000 := by have := r5.length; have := a5.len; omega
        repeat walk_at "vs"
        refine r_ninKI (.inl q5) ?_
        rcases r5.val kI_inj m1 with ⟨z1, z2⟩ | ⟨q2, p2, b2, bv2, z1, z2, z3, z4⟩
        · have z1' : valV kf (Sum.inl m1) = none := z1
          rw [z1']
          repeat walk_at "vs"
          intro tq H6 n6 q6 e6
          repeat walk_at "vs"
          refine r_dputI (e6 _ _ q5) lk fun H7 q7 b7 => ?_
          have t67 := tk_butK (e6 _ _ q5) b7
          have es : stepR p s acc2 (m1, m2) = putR acc2 m1 (p + m2, some s) := stepR_new (m := (m1, m2)) z2
          refine ⟨_, _, _, rfl, fun b o nb hb => b7 b o nb (e6 b o (b5 b o nb hb)), q7, ?_, ?_⟩
          · rw [ef, es]
            exact RowG.put kI_inj (rowI_mono ((tk_ext e6).tr t67) r5) (t67 _ _ q6) rfl
          · rw [ef]; exact a6
        · have z1' : valV kf (Sum.inl m1) = some (.ref q2) := z1
          rw [z1']
          repeat walk_at "vs"
          refine r_dgetI (.inl q5) z1' ?_
          repeat walk_at "vs"
          refine r_ixT z3 rfl ?_
          repeat walk_at "vs"
          refine iteD (fun cl => ?_) (fun cl => ?_)
          · repeat walk_at "vs"
            intro tq H6 n6 q6 e6
            repeat walk_at "vs"
            refine r_dputI (e6 _ _ q5) lk fun H7 q7 b7 => ?_
            have t67 := tk_butK (e6 _ _ q5) b7
            have es : stepR p s acc2 (m1, m2) = putR acc2 m1 (p + m2, some s) := stepR_less (m := (m1, m2)) z2 cl
            refine ⟨_, _, _, rfl, fun b o nb hb => b7 b o nb (e6 b o (b5 b o nb hb)), q7, ?_, ?_⟩
            · rw [ef, es]
              exact RowG.put kI_inj (rowI_mono ((tk_ext e6).tr t67) r5) (t67 _ _ q6) rfl
            · rw [ef]; exact a6
          · repeat walk_at "vs"
            have es : stepR p s acc2 (m1, m2) = acc2 := stepR_keep (m := (m1, m2)) z2 cl
            refine ⟨_, _, _, rfl, b5, q5, ?_, ?_⟩
            · rw [ef, es]; exact r5
            · rw [ef]; exact a6
      · rintro σ H5 ⟨u3, u4, kf, rfl, b5, q5, r5, a5⟩
        rw [show ys.length = (mvW t cs s).length by rw [← l4]; exact (wmv_len _ _ _ _).symm, List.take_length] at r5 a5
        have eo : (r.take (i + 1)).foldl (overR (mvW t cs)) [] = (mvW t cs s).foldl (stepR p s) acc := by rw [et, List.foldl_append, hacc]; rfl
        refine ⟨_, _, _, _, kf, rfl, Ext.but (x3.tr e4) b5 n1, q5, ?_, ?_⟩
        · rw [eo]; exact r5
        · rw [eo]; exact a5
    · rintro σ H3 ⟨u1, u2, u3, u4, kf, rfl, x3, qf, rf, ac⟩
      rw [show kvs.length = r.length from hR.length, List.take_length] at rf ac
      have lk := rf.length
      have la := ac.len
      repeat walk_at "vs"
      refine r_lenK qf ?_
      repeat walk_at "vs"
      refine iteD (fun cl => absurd cl (by omega)) (fun _ => ?_)
      repeat walk_at "vs"
      refine r_frz ?_
      repeat walk_at "vs"
      refine r_frzK qf fun o' H4 q4 b4 => ?_
      exact hq fd o' kf H4 n1 q4 (rowI_mono (tk_butK qf b4) rf) (Ext.but x3 b4 n1)
inductive RowsI (H : Hp) : List V → List (Row Int) → Prop
  | nil : RowsI H [] []
  | cons {d : Addr} {o : Obj} {kvs : List (Key × V)} {r : Row Int} {ys : List V} {rs : List (Row Int)} : H d = some (.frz o (.dK kvs)) → RowI H kvs r → RowsI H ys rs → RowsI H (.ref d :: ys) (r :: rs)
theorem RowsI.mono {H H' : Hp} (k : ∀ b o u, H b = some (.frz o u) → H' b = some (.frz o u)) (e : TK H H') {ys : List V} {rs : List (Row Int)} (h : RowsI H ys rs) : RowsI H' ys rs := by
  induction h with
  | nil => exact .nil
  | cons a b _ ih => exact .cons (k _ _ _ a) (rowI_mono e b) ih
theorem RowsI.ext {H H' : Hp} (e : Ext H H') {ys : List V} {rs : List (Row Int)} (h : RowsI H ys rs) : RowsI H' ys rs := h.mono (fun b o u z => e _ _ z) (tk_ext e)
theorem RowsI.extT {H H' : Hp} (e : ExtT H H') {ys : List V} {rs : List (Row Int)} (h : RowsI H ys rs) : RowsI H' ys rs := h.mono (fun b o u z => e _ _ z rfl) (tk_extT e)
theorem RowsI.butL {H H' : Hp} {x : Addr} {zs : List V} (hx : H x = some (.lst zs)) (b : But x H H') {ys : List V} {rs : List (Row Int)} (h : RowsI H ys rs) : RowsI H' ys rs := RowsI.mono (H := H) (H' := H') (fun c o u z => b c _ (fun q => by rw [q, hx] at z; cases z) z) (tk_butL hx b) h
theorem RowsI.length {H : Hp} {ys : List V} {rs : List (Row Int)} (h : RowsI H ys rs) : ys.length = rs.length := by
  induction h with
  | nil => rfl
  | cons _ _ _ ih => simp [ih]
theorem RowsI.at {H : Hp} {ys : List V} {rs : List (Row Int)} (h : RowsI H ys rs) : ∀ (i : Nat) (v : V), ys[i]? = some v → ∃ d o kvs, v = .ref d ∧ H d = some (.frz o (.dK kvs)) ∧ RowI H kvs (rs.getD i []) := by
  induction h with
  | nil => exact fun i v h => by simp at h
  | @cons d o kvs r ys rs a b _ ih =>
    intro i v h
    cases i with
    | zero => simp at h; subst h; exact ⟨d, o, kvs, rfl, a, b⟩
    | succ i => simpa using ih i v (by simpa using h)
theorem RowsI.snoc {H : Hp} {d : Addr} {o : Obj} {kvs : List (Key × V)} {r : Row Int} (hd : H d = some (.frz o (.dK kvs))) (hr : RowI H kvs r) {ys : List V} {rs : List (Row Int)} (h : RowsI H ys rs) : RowsI H (ys ++ [.ref d]) (rs ++ [r]) := by
  induction h with
  | nil => exact .cons hd hr .nil
  | cons a b _ ih => exact .cons a b ih
abbrev r0I (st : Int) : Row Int := [(st, (0 : Int), (none : Option Int))]
def sp_traced_rows (a : Adr) : Sp := fun vs H Q _ => ∃ (w dw wl : Addr) (n : Nat) (t st : Int) (ys : List V) (Ls : List (List Int)), vs = [.ref w, .int st, .ref wl] ∧ H w = some (.ins a.c_Ways dw [("many", .int (n : Nat)), ("toll", .int t)]) ∧ H wl = some (.lst ys) ∧ RefsH H ys Ls ∧ (∀ L ∈ Ls, L.length = n) ∧ n ≤ 8 ∧ Ls.length ≤ 1000 ∧
  ∀ l zs H', H l = none → H' l = some (.lst zs) → RowsI H' zs (allR (r0I st) (Ls.map (mvW t))) → Ext H H' → Q (.ref l) H'
theorem ok_traced_rows (T : Txt K mg a) : FnOk P w K mg base (CXU P w) 5 a.f_traced_rows a.d_traced_rows ["world", "start", "wishes"] (sp_traced_rows a) := by
  refine T.F_traced_rows.okU sc_traced_rows (fun vs H Q E h => ?_) (fun cdv A outer s H vs Q E hr h => ?_)
  · obtain ⟨w, dw, wl, n, t, st, ys, Ls, rfl, hw, hwl, hR, hL, h8, hz, hq⟩ := h
    rfl
  · obtain ⟨w, dw, wl, n, t, st, ys, Ls, rfl, hw, hwl, hR, hL, h8, hz, hq⟩ := h
    have zc_Changer := T.cl_Changer
    have zn_Changer_reckoned := T.na_Changer_reckoned
    have zn_Changer_world := T.na_Changer_world
    have zn_Changer_standing := T.na_Changer_standing
    have zn_Changer_spent := T.na_Changer_spent
    have zc_Ways := T.cl_Ways
    have zn_Ways_many := T.na_Ways_many
    have zn_Ways_toll := T.na_Ways_toll
    refine ⟨_, (pss_cons (ps_set (i := 3) sc_traced_rows.nd rfl (by first | exact Or.inl rfl | exact Or.inr rfl) (pe_lst (pa_cons (pe_frz (pe_disp (pps_cons (pv 1) (pe_tup (pa_cons pe_int (pa_cons pe_non pa_nil))) pps_nil) rfl rfl (List.cons_ne_nil _ _) (by decide))) pa_nil)))
      (pss_cons (ps_for PassesOwn.never rfl (pi_list (pv 2)) (pg_name (i := 4) sc_traced_rows.nd rfl (by first | exact Or.inl rfl | exact Or.inr rfl)) (pss_one (ps_expr (pe_bm PySem.F.plainAttrs_list PySem.F.slot_list_append PySem.F.type_list_append mt_append (pv 3) (pa_cons (pe_call (ok_reached T) (hr.mono (by decide)) (by rfl) T.m_reached T.F_reached.kp T.b_reached .nil passU (pa_cons (pv 0) (pa_cons (pe_ix oIx (pv 3) (pe_un un_neg pe_int) (fun _ _ => rfl)) (pa_cons (pv 4) pa_nil)))) pa_nil)))))
      (pss_one (ps_ret (pv 3))))), ?_⟩
    have ly := hR.length
    repeat walk_at "vs"
    refine r_frz ?_
    refine r_dispV fun fd H1 n1 q1 e1 => ?_
    repeat walk_at "vs"
    intro tq H2 n2 q2 e2
    refine r_dispI (e2 _ _ q1) fun H3 q3 b3 => ?_
    refine r_frzK q3 fun o H4 q4 b4 => ?_
    have nf : H fd = none := n1
    have x2 : Ext H H2 := e1.tr e2
    have x4 : Ext H H4 := Ext.but (Ext.but x2 b3 nf) b4 nf
    have q24 : H4 tq = some (.tup [.int 0, .non]) := tk_butK q3 b4 _ _ (tk_butK (e2 _ _ q1) b3 _ _ q2)
    have r4 : RowI H4 [(Sum.inl st, .ref tq)] (r0I st) := .cons (key := kI) (s := st) q24 rfl .nil
    repeat walk_at "vs"
    intro l H5 n5 q5 e5
    have nl : H l = none := x4.free n5
    repeat walk_at "vs"
    refine ⟨wl, rfl, ⟨_, SqL.of ((x4.tr e5) _ _ hwl)⟩, for_list (xs := ys) (fun i σ H6 => ∃ (u : Option V) (zs : List V), σ = [some (.ref w), some (.int st), some (.ref wl), some (.ref l), u] ∧ Ext H H6 ∧ H6 l = some (.lst zs) ∧ RowsI H6 zs (allR (r0I st) ((Ls.take i).map (mvW t)))) ⟨none, _, rfl, x4.tr e5, q5, .cons (e5 _ _ q4) (rowI_mono (tk_ext e5) r4) .nil⟩ (fun i σ H6 _ h => by obtain ⟨_, _, _, x, _⟩ := h; exact SqL.of (x _ _ hwl)) ?_ ?_⟩
    · rintro i y σ H6 hy ⟨u, zs, rfl, x6, q6, r6⟩
      obtain ⟨c, rfl, hc⟩ := hR.get i y hy
      have hi : i < Ls.length := by
        have := (List.getElem?_eq_some_iff.mp hy).1
        omega
      have hLi : Ls.getD i [] ∈ Ls := by rw [List.getD_eq_getElem?_getD, List.getElem?_eq_getElem hi]; exact List.getElem_mem hi
      have ln := hL _ hLi
      have lz := r6.length
      rw [allR_len, List.length_map, List.length_take] at lz
      have ez : zs[zs.length - 1]? = some (zs[zs.length - 1]'(by omega)) := List.getElem?_eq_getElem _
      obtain ⟨d, od, kvs, ed, hd, hrd⟩ := r6.at _ _ ez
      rw [ed] at ez
      have em : (Ls.take (i + 1)).map (mvW t) = (Ls.take i).map (mvW t) ++ [mvW t (Ls.getD i [])] := by
        rw [List.take_add_one, List.getElem?_eq_getElem hi, List.map_append, List.getD_eq_getElem?_getD, List.getElem?_eq_getElem hi]
        rfl
      have ei : zs.length - 1 = ((Ls.take i).map (mvW t)).length := by rw [List.length_map, List.length_take]; omega
      have nd := allR_nodup (r0 := r0I st) (by simp) (mvs := (Ls.take i).map (mvW t)) (zs.length - 1) (by omega)
      have el : lastL (r0I st) (allR (r0I st) ((Ls.take i).map (mvW t))) = (allR (r0I st) ((Ls.take i).map (mvW t))).getD (zs.length - 1) [] := by
        have e1 := last_getD [] _ _ (allR_len ((Ls.take i).map (mvW t)) (r0I st))
        rw [ei, ← e1]
        cases (Ls.take i).map (mvW t) <;> rfl
      repeat walk_at "vs"
      refine r_ixL q6 (atI_lastV (by omega) ez) ?_
      repeat walk_at "vs"
      refine ⟨w, dw, d, c, od, kvs, _, Ls.getD i [], t, rfl, by rw [ln]; exact x6 _ _ hw, hd, hrd, nd, x6 _ _ hc, by omega, fun d' o' kvs' H7 n7 q7 r7 e7 => ?_⟩
      have q67 := e7 _ _ q6
      repeat walk_at "vs"
      refine r_append q67 (by omega) fun H8 q8 b8 => ?_
      have ndl : d' ≠ l := (ne_of_none q6 n7).symm
      refine ⟨_, _, rfl, Ext.but (x6.tr e7) b8 nl, q8, ?_⟩
      rw [em, allR_snoc, el]
      exact RowsI.snoc (b8 _ _ ndl q7) (rowI_mono (tk_butL q67 b8) r7) (RowsI.butL q67 b8 (r6.ext e7))
    · rintro σ H6 ⟨u, zs, rfl, x6, q6, r6⟩
      rw [ly, List.take_length] at r6
      repeat walk_at "vs"
      exact hq l zs H6 nl q6 r6 x6
theorem mvW_ne {t : Int} {cs : List Int} (h : 1 ≤ cs.length) (b : Int) : mvW t cs b ≠ [] := fun z => by
  have := wmv_len cs b t cs.length
  have z' : wmv cs b t cs.length = [] := z
  rw [z'] at this
  simp at this
  omega
theorem allW_ne {t st : Int} {n : Nat} (n1 : 1 ≤ n) {Ls : List (List Int)} (hL : ∀ L ∈ Ls, L.length = n) : ∀ j, j ≤ Ls.length → (allR (r0I st) (Ls.map (mvW t))).getD j [] ≠ []
  | 0, _ => by rw [allR_zero]; simp
  | j + 1, h => by
    rw [allR_next _ _ _ (by rw [List.length_map]; omega)]
    refine reachR_ne (allW_ne n1 hL j (by omega)) fun s _ => ?_
    rw [List.getD_eq_getElem?_getD, List.getElem?_map, List.getElem?_eq_getElem (show j < Ls.length by omega)]
    exact mvW_ne (by rw [hL _ (List.getElem_mem _)]; exact n1) s
abbrev TabB (a : Adr) (H : Hp) : Prop := TabR H a.tb_best lp_best lq_best
def NewT (H : Hp) (x : Addr) : Prop := ∀ o, H x = some o → noTb o = false
theorem newT_of {H H' : Hp} {x : Addr} (e : ExtT H H') (n : H' x = none) : NewT H x := fun o ho => by
  cases t : noTb o with
  | false => rfl
  | true => rw [e x o ho t] at n; cases n
theorem ExtT.butN {x : Addr} {H H1 H2 : Hp} (a : ExtT H H1) (b : But x H1 H2) (hn : NewT H x) : ExtT H H2 := fun y o h t => b y o (fun z => by rw [z] at h; rw [hn o h] at t; cases t) (a y o h t)
theorem TabR.butL {H H' : Hp} {P r : Addr} {pos : Pos} {qual : Str} {xs : List V} (hr : H r = some (.lst xs)) (e : But r H H') (h : TabR H P pos qual) : TabR H' P pos qual := by
  rcases h with h | ⟨c, h, oc, vs, t, k, k2⟩
  · exact .inl (e _ _ (fun z => by rw [z, hr] at h; cases h) h)
  · exact .inr ⟨c, e _ _ (fun z => by rw [z, hr] at h; cases h) h, oc, vs, t, e _ _ (fun z => by rw [z, hr] at k; cases k) k, k2⟩
def sp_best (a : Adr) : Sp := fun vs H Q _ => ∃ (w dw wl : Addr) (n : Nat) (t st : Int) (ys : List V) (Ls : List (List Int)), vs = [.ref w, .int st, .ref wl] ∧ H w = some (.ins a.c_Ways dw [("many", .int (n : Nat)), ("toll", .int t)]) ∧ H wl = some (.lst ys) ∧ RefsH H ys Ls ∧ (∀ L ∈ Ls, L.length = n) ∧ 1 ≤ n ∧ n ≤ 8 ∧ Ls.length ≤ 1000 ∧ TabB a H ∧
  ∀ tp yl H', NewT H yl → H' tp = some (.tup [.int (beI st (Ls.map (mvW t))), .ref yl]) → H' yl = some (.lst ((wyI st (Ls.map (mvW t))).map V.int)) → TabB a H' → ExtT H H' → But a.tb_best H H' → Q (.ref tp) H'
theorem ok_best (T : Txt K mg a) : FnOk P w K mg base (CXU P w) 6 a.f_best a.d_best ["world", "start", "wishes"] (sp_best a) := by
  refine T.F_best.okL T.ck_best sc_best (fun vs H Q E h => ?_) (fun A outer s H vs Q E hr h => ?_)
  · obtain ⟨w, dw, wl, n, t, st, ys, Ls, rfl, hw, hwl, hR, hL, n1, h8, hz, hT, hq⟩ := h
    rfl
  · obtain ⟨w, dw, wl, n, t, st, ys, Ls, rfl, hw, hwl, hR, hL, n1, h8, hz, hT, hq⟩ := h
    have zc_Changer := T.cl_Changer
    have zn_Changer_reckoned := T.na_Changer_reckoned
    have zn_Changer_world := T.na_Changer_world
    have zn_Changer_standing := T.na_Changer_standing
    have zn_Changer_spent := T.na_Changer_spent
    have zc_Ways := T.cl_Ways
    have zn_Ways_many := T.na_Ways_many
    have zn_Ways_toll := T.na_Ways_toll
    refine ⟨_, (pss_cons (ps_set (i := 3) sc_best.nd rfl (by first | exact Or.inl rfl | exact Or.inr rfl) (pe_call (ok_traced_rows T) (hr.mono (by decide)) (by rfl) T.m_traced_rows T.F_traced_rows.kp T.b_traced_rows .nil passU (pa_cons (pv 0) (pa_cons (pv 1) (pa_cons (pv 2) pa_nil)))))
      (pss_cons (ps_set (i := 4) sc_best.nd rfl (by first | exact Or.inl rfl | exact Or.inr rfl) (pe_ix oIx (pv 3) (pe_un un_neg pe_int) (fun _ _ => rfl)))
      (pss_cons (ps_set (i := 5) sc_best.nd rfl (by first | exact Or.inl rfl | exact Or.inr rfl) (pe_minKeyB (k := 0) (c := a.ck_best) (P := a.tb_best) (x := "some") (fr := ["last"]) (js := [4]) (κ := Int) (KR := KRi) (lt := lti) (fun _ kf => keyed_ints kf) (hr.mono (by decide)) (by rfl) T.n_min (pa_cons (pe_callB (cSortDK rfl) (by rfl) T.n_sorted PyProof.Rows.boot_sorted (pa_cons (pv 4) pa_nil)) pa_nil) rfl T.hd_best rfl ⟨rfl, rfl, rfl, by decide +kernel, rfl, by rfl, ⟨⟨rfl, by first | exact Or.inl rfl | exact Or.inr rfl, by first | exact Or.inl rfl | exact Or.inr rfl⟩, trivial⟩⟩ (fun _ _ _ _ => rfl) (fun _ _ _ _ _ => (pe_ix oIx (pe_dgetR (Room.lam (j := 0) (by decide) hr) (pv 1) (pv 0) (fun _ _ => rfl)) pe_int (fun _ _ => rfl)))))
      (pss_cons (ps_set (i := 6) sc_best.nd rfl (by first | exact Or.inl rfl | exact Or.inr rfl) (pe_ix oIx (pe_dgetR hr (pv 4) (pv 5) (fun _ _ => rfl)) pe_int (fun _ _ => rfl)))
      (pss_cons (ps_set (i := 7) sc_best.nd rfl (by first | exact Or.inl rfl | exact Or.inr rfl) (pe_lst pa_nil))
      (pss_cons (ps_for PassesOwn.never rfl (pi_rev (by rfl) T.n_reversed (pa_cons (pe_slice oSl (pv 3) (po_some pe_int) po_none) pa_nil)) (pg_name (i := 8) sc_best.nd rfl (by first | exact Or.inl rfl | exact Or.inr rfl)) (pss_cons (ps_expr (pe_bm PySem.F.plainAttrs_list PySem.F.slot_list_append PySem.F.type_list_append mt_append (pv 7) (pa_cons (pv 5) pa_nil)))
      (pss_one (ps_set (i := 5) sc_best.nd rfl (by first | exact Or.inl rfl | exact Or.inr rfl) (pe_ix oIx (pe_dgetR hr (pv 8) (pv 5) (fun _ _ => rfl)) pe_int (fun _ _ => rfl))))))
      (pss_one (ps_ret (pe_tup (pa_cons (pv 6) (pa_cons (pe_listRev rfl (by rfl) T.n_list (by rfl) T.n_reversed (pa_cons (pv 7) pa_nil)) pa_nil))))))))))), ?_⟩
    repeat walk_at "vs"
    refine ⟨w, dw, wl, n, t, st, ys, Ls, rfl, hw, hwl, hR, hL, h8, hz, fun l zs H1 nl ql rl e1 => ?_⟩
    have lm : (Ls.map (mvW t)).length = Ls.length := List.length_map ..
    have lz := rl.length
    rw [allR_len, lm] at lz
    have hT1 := TabR.ext e1 hT
    have nd := allR_nodup (r0 := r0I st) (by simp) (mvs := Ls.map (mvW t)) (Ls.map (mvW t)).length (Nat.le_refl _)
    have hne := allW_ne (t := t) (st := st) n1 hL Ls.length (Nat.le_refl _)
    rw [← lm] at hne
    have ez : zs[zs.length - 1]? = some (zs[zs.length - 1]'(by omega)) := List.getElem?_eq_getElem _
    obtain ⟨d, od, kvs, ed, hd, hrd⟩ := rl.at _ _ ez
    rw [ed] at ez
    rw [show zs.length - 1 = (Ls.map (mvW t)).length by omega] at hrd
    have few : ((allR (r0I st) (Ls.map (mvW t))).getD (Ls.map (mvW t)).length []).length < 64 := by
      cases hLs : Ls with
      | nil => exact (by decide : 1 < 64)
      | cons L0 Lr =>
        have hp : 0 < Ls.length := by rw [hLs]; simp
        have e2 := allR_next (Ls.map (mvW t)) (r0I st) (Ls.length - 1) (by omega)
        rw [show Ls.length - 1 + 1 = (Ls.map (mvW t)).length by omega] at e2
        rw [hLs] at e2 nd
        have hb : ∀ s : Int, s ∈ ((allR (r0I st) ((L0 :: Lr).map (mvW t))).getD ((L0 :: Lr).map (mvW t)).length []).map (·.1) → 0 ≤ s ∧ s < (n : Int) := fun s hs => by
          obtain ⟨x, hx⟩ := getR_some hs
          rw [e2] at hx
          obtain ⟨e, m, _, hm, em, _⟩ := (reachR_made _ _).of s x hx
          have hj : (L0 :: Lr).length - 1 < (L0 :: Lr).length := by simp
          rw [List.getD_eq_getElem?_getD, List.getElem?_map, List.getElem?_eq_getElem hj] at hm
          have := mvW_at hm
          rw [hL _ (by rw [hLs]; exact List.getElem_mem _)] at this
          rw [← em]
          exact this
        have := ints_few nd hb
        rw [List.length_map] at this
        omega
    generalize hlast : (allR (r0I st) (Ls.map (mvW t))).getD (Ls.map (mvW t)).length [] = last at *
    have hkl := hrd.length
    have bin := bsI_in hne
    repeat walk_at "vs"
    refine r_ixL ql (atI_lastV (by omega) ez) ?_
    repeat walk_at "vs"
    unfold tMinKB
    repeat walk_at "vs"
    refine r_sortDK hd (ns := last.map (·.1)) (by rw [hrd.keys, List.map_map]; rfl) (by omega) fun ls ms H2 n2 pm sm q2 e2 => ?_
    have ems : ms = msI last := sorted_uniq pm (msI_perm last) sm (msI_sorted last)
    subst ems
    have lms : (msI last).length = last.length := by rw [(msI_perm last).length_eq, List.length_map]
    have l0 : 0 < last.length := List.length_pos_iff.mpr hne
    refine ⟨ls, (msI last).map V.int, false, kfI last, rfl, q2, by rw [List.length_map]; omega, TabR.ext e2 hT1, fun i x hx pins f c s' Hc H3 e3 => ?_, fun x H3 hx e3 b3 hT3 => ?_⟩
    · obtain ⟨y, ey, rfl⟩ := get_int hx
      have hy : y ∈ last.map (·.1) := (msI_perm last).mem_iff.mp (List.mem_of_getElem? ey)
      obtain ⟨x0, hx0⟩ := getR_some hy
      rcases hrd.val kI_inj y with ⟨_, z⟩ | ⟨q', p', b', bv', v1, v2, v3, v4⟩
      · rw [hx0] at z; cases z
      repeat walk_at "vs"
      refine r_dgetI (.inr ⟨od, e3 _ _ (e2 _ _ hd) rfl⟩) v1 ?_
      repeat walk_at "vs"
      refine r_ixT (e3 _ _ (e2 _ _ v3) rfl) rfl ?_
      repeat walk_at "vs"
      refine ⟨?_, Ext.rfl'⟩
      show V.int p' = V.int (kfI last i)
      unfold kfI
      rw [List.getD_eq_getElem?_getD (l := msI last), ey, Option.getD_some, v2]
      rfl
    · rw [List.length_map] at hx
      obtain ⟨v, ev, rfl⟩ := get_int hx
      have ebs : bsI last = v := by unfold bsI; rw [List.getD_eq_getElem?_getD, ev]; rfl
      subst ebs
      have x3 : ExtT H H3 := (Ext.toT (e1.tr e2)).tr e3
      have hd3 := e3 _ _ (e2 _ _ hd) rfl
      have ql3 := e3 _ _ (e2 _ _ ql) rfl
      have rl3 := (rl.ext e2).extT e3
      obtain ⟨x0, hx0⟩ := getR_some bin
      rcases hrd.val kI_inj (bsI last) with ⟨_, z⟩ | ⟨q', p', b', bv', v1, v2, v3, v4⟩
      · rw [hx0] at z; cases z
      have v33 := e3 _ _ (e2 _ _ v3) rfl
      have ebe : beI st (Ls.map (mvW t)) = p' := by unfold beI lsI; rw [hlast, v2]; rfl
      repeat walk_at "vs"
      refine r_dgetI (.inr ⟨od, hd3⟩) v1 ?_
      repeat walk_at "vs"
      refine r_ixT v33 rfl ?_
      repeat walk_at "vs"
      intro wy H4 n4 q4 e4
      repeat walk_at "vs"
      refine r_irev ?_
      repeat walk_at "vs"
      refine r_slL (e4 _ _ ql3) fun sl H5 n5 q5 e5 => ?_
      have cut1 : cutV zs (some 1) none = zs.drop 1 := by
        exact cut_one zs (by omega)
      rw [cut1] at q5
      have ls5 : (zs.drop 1).length = Ls.length := by rw [List.length_drop]; omega
      have q45 := e5 _ _ q4
      have nwy : NewT H wy := newT_of x3 n4
      have nsw : sl ≠ wy := (ne_of_none q4 n5).symm
      have hs0 : bsI last ∈ ((allR (r0I st) (Ls.map (mvW t))).getD (Ls.map (mvW t)).length []).map (·.1) := by rw [hlast]; exact bin
      repeat walk_at "vs"
      refine ⟨sl, zs.drop 1, rfl, q5, for_rev (xs := zs.drop 1) (fun i σ H6 => ∃ (u : Option V), σ = [some (.ref w), some (.int st), some (.ref wl), some (.ref l), some (.ref d), some (.int (stT ((allR (r0I st) (Ls.map (mvW t))).drop 1).reverse (bsI last) i)), some (.int p'), some (.ref wy), u] ∧ But wy H5 H6 ∧ H6 wy = some (.lst (((List.range i).map (stT ((allR (r0I st) (Ls.map (mvW t))).drop 1).reverse (bsI last))).map V.int))) ⟨none, rfl, fun b o _ h => h, q45⟩ (fun i σ H6 _ h => by obtain ⟨_, _, b6, _⟩ := h; exact b6 _ _ nsw q5) ?_ ?_⟩
      · rintro i y σ H6 hi hy ⟨u, rfl, b6, q6⟩
        rw [ls5] at hi hy
        rw [List.getElem?_drop, show 1 + (Ls.length - 1 - i) = Ls.length - i by omega] at hy
        obtain ⟨dr, odr, kr, rfl, hdr, hrr⟩ := ((rl3.ext e4).ext e5).at _ _ hy
        obtain ⟨p2, b2, g1, g2⟩ := stT_get hs0 i (by omega)
        rw [lm] at g1
        generalize hst : stT ((allR (r0I st) (Ls.map (mvW t))).drop 1).reverse (bsI last) i = si at *
        rcases hrr.val kI_inj si with ⟨_, z⟩ | ⟨q2', p2', b2', bv2', w1, w2, w3, w4⟩
        · rw [g1] at z; cases z
        rw [g1] at w2
        cases w2
        cases (show bv2' = .int b2 from w4)
        have q6l : ((List.range i).map (stT ((allR (r0I st) (Ls.map (mvW t))).drop 1).reverse (bsI last))).length = i := by simp
        repeat walk_at "vs"
        refine r_append q6 (by rw [List.length_map, q6l]; omega) fun H7 q7 b7 => ?_
        have nb : But wy H5 H7 := fun b o n h => b7 b o n (b6 b o n h)
        have hdr7 := nb _ _ (ne_of hdr q45 (by intro z; cases z)) hdr
        have w37 := nb _ _ (ne_of w3 q45 (by intro z; cases z)) w3
        repeat walk_at "vs"
        refine r_dgetI (.inr ⟨odr, hdr7⟩) w1 ?_
        repeat walk_at "vs"
        refine r_ixT w37 rfl ?_
        repeat walk_at "vs"
        refine ⟨some (.ref dr), by rw [g2]; rfl, nb, ?_⟩
        rw [q7, List.range_succ, List.map_append, List.map_append, ← hst]
        rfl
      · rintro σ H6 ⟨u, rfl, b6, q6⟩
        rw [ls5] at q6
        have lr : ((allR (r0I st) (Ls.map (mvW t))).drop 1).reverse.length = Ls.length := by rw [List.length_reverse, List.length_drop, allR_len, lm]; omega
        have ewy : wyI st (Ls.map (mvW t)) = ((List.range Ls.length).map (stT ((allR (r0I st) (Ls.map (mvW t))).drop 1).reverse (bsI last))).reverse := by
          unfold wyI
          rw [hlast, trace_st, lr]
        repeat walk_at "vs"
        refine r_listRev q6 fun yl H7 n7 q7 e7 => ?_
        repeat walk_at "vs"
        intro tp H8 n8 q8 e8
        have x5 : ExtT H H5 := (x3.ext e4).ext e5
        have x6 : ExtT H H6 := ExtT.butN x5 b6 nwy
        have T6 := TabR.butL q45 b6 (TabR.ext (e4.tr e5) hT3)
        refine hq tp yl H8 (newT_of x6 n7) (by rw [ebe]; exact q8) ?_ (TabR.ext (e7.tr e8) T6) (x6.ext (e7.tr e8)) (fun b o n h => (e7.tr e8) _ _ (But.new (p := a.tb_best) (H := H) (fun b o n h => b3 b o n ((e1.tr e2) _ _ h)) n4 (e4.tr e5) b6 b o n h))
        rw [ewy, List.map_reverse]
        exact e8 _ _ q7
def sp_Changer_charged (a : Adr) : Sp := fun vs H Q _ => ∃ (r p : Addr) (ns cs : List Int) (h t z : Int), vs = [.ref r, .ref p] ∧ WaysAt a H r ns h t z ∧ H p = some (.tup (cs.map V.int)) ∧ cs.length = ns.length ∧ ns.length ≤ 1000 ∧ ∀ l H', H l = none → H' l = some (.lst ((frw ns cs).map V.int)) → Ext H H' → Q (.ref l) H'
theorem ok_Changer_charged (T : Txt K mg a) : FnOk P w K mg base (CXU P w) 1 a.f_Changer_charged a.d_Changer_charged ["self", "charges"] (sp_Changer_charged a) := by
  refine T.F_Changer_charged.okU sc_Changer_charged (fun vs H Q E h => ?_) (fun cdv A outer s H vs Q E hr h => ?_)
  · obtain ⟨r, p, ns, cs, h, t, z, rfl, hB, hp, hl, hz, hq⟩ := h
    rfl
  · obtain ⟨r, p, ns, cs, h, t, z, rfl, hB, hp, hl, hz, hq⟩ := h
    have zc_Changer := T.cl_Changer
    have zn_Changer_reckoned := T.na_Changer_reckoned
    have zn_Changer_world := T.na_Changer_world
    have zn_Changer_standing := T.na_Changer_standing
    have zn_Changer_spent := T.na_Changer_spent
    have zc_Ways := T.cl_Ways
    have zn_Ways_many := T.na_Ways_many
    have zn_Ways_toll := T.na_Ways_toll
    refine ⟨_, (pss_one (ps_ret (pe_comp (["number", "charge"] : List Str) ([] : List Str) [] rfl ⟨rfl, by decide +kernel, by decide +kernel, by rfl, trivial⟩ (pi_zip2 rfl T.n_zip (pa_cons (pe_fld (pv 0) rfl) (pa_cons (pv 1) pa_nil))) (fun _ _ _ _ => ⟨(pg_tup rfl (pgs_cons (pg_name (i := 0) (by show ((["number", "charge"] : List Str) ++ ([] : List Str)).Nodup; decide +kernel) rfl (by first | exact Or.inl rfl | exact Or.inr rfl)) (pgs_cons (pg_name (i := 1) (by show ((["number", "charge"] : List Str) ++ ([] : List Str)).Nodup; decide +kernel) rfl (by first | exact Or.inl rfl | exact Or.inr rfl)) pgs_nil))), (show PTs _ [] [] from trivial), (pe_op oAddV (pv 0) (pv 1))⟩)))), ?_⟩
    obtain ⟨dx, wo, dw, q, h1, h2, h3⟩ := hB.ex
    repeat walk_at "vs"
    refine ⟨q, p, ns.map V.int, cs.map V.int, false, true, rfl, SqL.of h3, SqT.of hp, fun acc hn _ _ _ _ => comp_mapZ V.int V.int V.int (· + ·) (c := false) (d := true) (SqL.of h3) (SqT.of hp) hl.symm (by omega) hn (fun i x y H2 Y hx hy e hY => ?_) fun H2 e ha => ?_⟩
    · repeat walk_at "vs"
      exact hY _ Ext.rfl'
    · exact hq acc H2 hn ha e
def sp_Changer_learn (a : Adr) : Sp := fun vs H Q _ => ∃ (r p : Addr) (ns cs : List Int) (h t z : Int), vs = [.ref r, .ref p] ∧ WaysAt a H r ns h t z ∧ H p = some (.tup (cs.map V.int)) ∧ WOk ns h t ∧ ChOk ns cs ∧ ∀ H', WaysAt a H' r (upW ns cs t) h t z → But r H H' → Q .non H'
theorem ok_Changer_learn (T : Txt K mg a) : FnOk P w K mg base (CXU P w) 2 a.f_Changer_learn a.d_Changer_learn ["self", "wish"] (sp_Changer_learn a) := by
  refine T.F_Changer_learn.okU sc_Changer_learn (fun vs H Q E h => ?_) (fun cdv A outer s H vs Q E hr h => ?_)
  · obtain ⟨r, p, ns, cs, h, t, z, rfl, hB, hp, hk, hc, hq⟩ := h
    rfl
  · obtain ⟨r, p, ns, cs, h, t, z, rfl, hB, hp, hk, hc, hq⟩ := h
    have zc_Changer := T.cl_Changer
    have zn_Changer_reckoned := T.na_Changer_reckoned
    have zn_Changer_world := T.na_Changer_world
    have zn_Changer_standing := T.na_Changer_standing
    have zn_Changer_spent := T.na_Changer_spent
    have zc_Ways := T.cl_Ways
    have zn_Ways_many := T.na_Ways_many
    have zn_Ways_toll := T.na_Ways_toll
    refine ⟨_, (pss_cons (ps_set (i := 2) sc_Changer_learn.nd rfl (by first | exact Or.inl rfl | exact Or.inr rfl) (pe_meth (pv 0) T.cl_Changer T.me_Changer_charged (ok_Changer_charged T) (hr.mono (by decide)) T.b_Changer_charged .nil passU (pa_cons (pv 1) pa_nil)))
      (pss_cons (ps_set (i := 3) sc_Changer_learn.nd rfl (by first | exact Or.inl rfl | exact Or.inr rfl) (pe_op oAddV (pe_callB (cMin1 rfl) (by rfl) T.n_min PyProof.Rows.boot_min (pa_cons (pv 2) pa_nil)) (pe_fld (pe_fld (pv 0) rfl) rfl)))
      (pss_one (ps_fld (pv 0) (pe_comp (["number"] : List Str) (["far"] : List Str) [3] rfl ⟨rfl, by decide +kernel, by decide +kernel, by rfl, ⟨⟨rfl, by first | exact Or.inl rfl | exact Or.inr rfl, by first | exact Or.inl rfl | exact Or.inr rfl⟩, trivial⟩⟩ (pi_list (pv 2)) (fun _ _ _ _ => ⟨(pg_name (i := 0) (by show ((["number"] : List Str) ++ (["far"] : List Str)).Nodup; decide +kernel) rfl (by first | exact Or.inl rfl | exact Or.inr rfl)), (show PTs _ [] [] from trivial), (pe_callB (cMin2 rfl) (by rfl) T.n_min PyProof.Rows.boot_min (pa_cons (pv 0) (pa_cons (pv 1) pa_nil)))⟩)) rfl)))), ?_⟩
    have g1 := hk.lo
    have g8 := hk.hi
    have fl := frw_len hc.len
    have fne := frw_ne hc.len g1
    obtain ⟨dx, wo, dw, q, h1, h2, h3⟩ := hB.ex
    repeat walk_at "vs"
    refine ⟨r, p, ns, cs, h, t, z, rfl, hB, hp, hc.len, by omega, fun l H1 n1 q1 e1 => ?_⟩
    have h11 := e1 _ _ h1
    have h21 := e1 _ _ h2
    repeat walk_at "vs"
    refine r_min1 q1 fne ?_
    repeat walk_at "vs"
    refine ⟨l, rfl, ⟨_, SqL.of q1⟩, fun acc hn _ _ _ _ => comp_mapL V.int V.int (fun x => min x (mn (frw ns cs) + t)) (SqL.of q1) (by omega) hn (fun i x H2 Y hx e hY => ?_) fun H2 e2 ha => ?_⟩
    · repeat walk_at "vs"
      exact hY _ Ext.rfl'
    · have h12 := e2 _ _ h11
      repeat walk_at "vs"
      refine r_sat h12 T.cl_Changer T.na_Changer_reckoned (lt1000 rfl) fun H3 q3 b3 => ?_
      have nw : wo ≠ r := (ne_of h1 h2 (by intro z; injection z with _ _ z; exact absurd (congrArg List.length z) (by show 4 ≠ 2; decide))).symm
      have na : acc ≠ r := (ne_of_none h11 hn).symm
      refine hq H3 ⟨dx, wo, dw, acc, q3, ?_, b3 _ _ na ha⟩ (Ext.toBut (e1.tr e2) b3)
      rw [upW_len hc.len]
      exact b3 _ _ nw (e2 _ _ h21)
def sp_Rule_price_to (a : Adr) : Sp := fun vs H Q _ => ∃ (r p : Addr) (ns cs : List Int) (h f t z : Int), vs = [.ref r, .ref p, .int f] ∧ WaysAt a H r ns h t z ∧ H p = some (.tup (cs.map V.int)) ∧ 0 ≤ f ∧ f < cs.length ∧ Q (.int (prc cs h f t)) H
theorem ok_Rule_price_to (T : Txt K mg a) : FnOk P w K mg base (CXU P w) 2 a.f_Rule_price_to a.d_Rule_price_to ["self", "wish", "after"] (sp_Rule_price_to a) := by
  refine T.F_Rule_price_to.okU sc_Rule_price_to (fun vs H Q E h => ?_) (fun cdv A outer s H vs Q E hr h => ?_)
  · obtain ⟨r, p, ns, cs, h, f, t, z, rfl, hB, hp, f0, f1, hq⟩ := h
    rfl
  · obtain ⟨r, p, ns, cs, h, f, t, z, rfl, hB, hp, f0, f1, hq⟩ := h
    have zc_Changer := T.cl_Changer
    have zn_Changer_reckoned := T.na_Changer_reckoned
    have zn_Changer_world := T.na_Changer_world
    have zn_Changer_standing := T.na_Changer_standing
    have zn_Changer_spent := T.na_Changer_spent
    have zc_Ways := T.cl_Ways
    have zn_Ways_many := T.na_Ways_many
    have zn_Ways_toll := T.na_Ways_toll
    refine ⟨_, (pss_one (ps_ret (pe_meth (pe_fld (pv 0) rfl) T.cl_Ways T.me_Ways_price (ok_Ways_price T) (hr.mono (by decide)) T.b_Ways_price .nil passU (pa_cons (pe_fld (pv 0) rfl) (pa_cons (pv 1) (pa_cons (pv 2) pa_nil)))))), ?_⟩
    obtain ⟨dx, wo, dw, q, h1, h2, h3⟩ := hB.ex
    repeat walk_at "vs"
    exact ⟨wo, dw, p, cs, _, h, f, t, rfl, h2, hp, f0, f1, hq⟩
def sp_Changer_target (a : Adr) : Sp := fun vs H Q _ => ∃ (r p : Addr) (ns cs : List Int) (h t z : Int), vs = [.ref r, .ref p] ∧ WaysAt a H r ns h t z ∧ H p = some (.tup (cs.map V.int)) ∧ WOk ns h t ∧ ChOk ns cs ∧ ∀ H', Ext H H' → Q (.int (goW ns cs t h)) H'
theorem ok_Changer_target (T : Txt K mg a) : FnOk P w K mg base (CXU P w) 2 a.f_Changer_target a.d_Changer_target ["self", "wish"] (sp_Changer_target a) := by
  refine T.F_Changer_target.okU sc_Changer_target (fun vs H Q E h => ?_) (fun cdv A outer s H vs Q E hr h => ?_)
  · obtain ⟨r, p, ns, cs, h, t, z, rfl, hB, hp, hk, hc, hq⟩ := h
    rfl
  · obtain ⟨r, p, ns, cs, h, t, z, rfl, hB, hp, hk, hc, hq⟩ := h
    have zc_Changer := T.cl_Changer
    have zn_Changer_reckoned := T.na_Changer_reckoned
    have zn_Changer_world := T.na_Changer_world
    have zn_Changer_standing := T.na_Changer_standing
    have zn_Changer_spent := T.na_Changer_spent
    have zc_Ways := T.cl_Ways
    have zn_Ways_many := T.na_Ways_many
    have zn_Ways_toll := T.na_Ways_toll
    refine ⟨_, (pss_cons (ps_set (i := 2) sc_Changer_target.nd rfl (by first | exact Or.inl rfl | exact Or.inr rfl) (pe_meth (pv 0) T.cl_Changer T.me_Changer_charged (ok_Changer_charged T) (hr.mono (by decide)) T.b_Changer_charged .nil passU (pa_cons (pv 1) pa_nil)))
      (pss_cons (ps_set (i := 3) sc_Changer_target.nd rfl (by first | exact Or.inl rfl | exact Or.inr rfl) (pe_callB (cMin1 rfl) (by rfl) T.n_min PyProof.Rows.boot_min (pa_cons (pv 2) pa_nil)))
      (pss_cons (ps_if (pt_cmpR op_gt (pe_ix oIx (pv 2) (pe_fld (pv 0) rfl) (fun _ _ => rfl)) (pe_op oAddV (pv 3) (pe_fld (pe_fld (pv 0) rfl) rfl)) (nomark _)) (pss_one (ps_ret (pe_bm PySem.F.plainAttrs_list PySem.F.slot_list_index PySem.F.type_list_index mt_index (pv 2) (pa_cons (pv 3) pa_nil)))) pss_nil)
      (pss_one (ps_ret (pe_fld (pv 0) rfl)))))), ?_⟩
    unfold goW at hq
    have g1 := hk.lo
    have g8 := hk.hi
    have fl := frw_len hc.len
    have fne := frw_ne hc.len g1
    have i1 := atI_ints (ns := frw ns cs) hk.h0 (by rw [fl]; exact hk.h1)
    obtain ⟨dx, wo, dw, q, h1, h2, h3⟩ := hB.ex
    repeat walk_at "vs"
    refine ⟨r, p, ns, cs, h, t, z, rfl, hB, hp, hc.len, by omega, fun l H1 n1 q1 e1 => ?_⟩
    have h11 := e1 _ _ h1
    have h21 := e1 _ _ h2
    repeat walk_at "vs"
    refine r_min1 q1 fne ?_
    repeat walk_at "vs"
    refine r_ixL q1 i1 ?_
    repeat walk_at "vs"
    refine iteD (fun c => ?_) (fun c => ?_)
    · rw [if_pos c] at hq
      repeat walk_at "vs"
      refine r_index q1 (mn_is fne).1 (by omega) ?_
      exact hq H1 e1
    · rw [if_neg c] at hq
      repeat walk_at "vs"
      exact hq H1 e1
def sp_is_whole_number : Sp := fun vs H Q _ => ∃ x k, vs = [x] ∧ HasK H x k ∧ Q (.bl (k == .int)) H
theorem ok_is_whole_number (T : Txt K mg a) : FnOk P w K mg base (CXU P w) 1 a.f_is_whole_number a.d_is_whole_number ["thing"] (sp_is_whole_number) := by
  refine T.F_is_whole_number.okU sc_is_whole_number (fun vs H Q E h => ?_) (fun cdv A outer s H vs Q E hr h => ?_)
  · obtain ⟨x, k, rfl, hk, hq⟩ := h
    rfl
  · obtain ⟨x, k, rfl, hk, hq⟩ := h
    refine ⟨_, (pss_one (ps_ret (pe_and (pe_callB cIsin (by rfl) T.n_isinstance PyProof.Rows.boot_isinstance (pa_cons (pv 0) (pa_cons (pe_bltn (v := V.ty "int") (by rfl) T.n_int PyProof.Rows.boot_int rfl) pa_nil))) (pe_one (pe_not (pe_callB cIsin (by rfl) T.n_isinstance PyProof.Rows.boot_isinstance (pa_cons (pv 0) (pa_cons (pe_bltn (v := V.ty "bool") (by rfl) T.n_bool PyProof.Rows.boot_bool rfl) pa_nil)))))))), ?_⟩
    repeat walk_at "vs"
    refine r_isI hk ?_
    cases k <;> (repeat walk_at "vs") <;> first | exact hq | (refine r_isB hk ?_; (repeat walk_at "vs"); exact hq)
def amt : V → Bool
  | .int i => decide (0 ≤ i) && decide (i ≤ 1000000000000000000)
  | _ => false
def sp_is_amount : Sp := fun vs H Q _ => ∃ x k, vs = [x] ∧ HasK H x k ∧ Q (.bl (amt x)) H
theorem ok_is_amount (T : Txt K mg a) : FnOk P w K mg base (CXU P w) 2 a.f_is_amount a.d_is_amount ["thing"] (sp_is_amount) := by
  refine T.F_is_amount.okU sc_is_amount (fun vs H Q E h => ?_) (fun cdv A outer s H vs Q E hr h => ?_)
  · obtain ⟨x, k, rfl, hk, hq⟩ := h
    rfl
  · obtain ⟨x, k, rfl, hk, hq⟩ := h
    refine ⟨_, (pss_one (ps_ret (pe_and (pe_call (ok_is_whole_number T) (hr.mono (by decide)) (by rfl) T.m_is_whole_number T.F_is_whole_number.kp T.b_is_whole_number .nil passU (pa_cons (pv 0) pa_nil)) (pe_one (pe_chain op_le op_le pe_int (pv 0) (pe_op op_pow pe_int pe_int)))))), ?_⟩
    repeat walk_at "vs"
    refine ⟨x, k, rfl, hk, ?_⟩
    cases x with
    | int i =>
      cases (show k = .int from hk)
      repeat walk_at "vs"
      refine iteD (fun h => ?_) (fun h => ?_)
      · repeat walk_at "vs"
        have e : amt (.int i) = decide (i ≤ 1000000000000000000) := by show (decide (0 ≤ i) && _) = _; rw [decide_eq_true h, Bool.true_and]
        rw [← e]; exact hq
      · repeat walk_at "vs"
        have e : amt (.int i) = false := by show (decide (0 ≤ i) && _) = _; rw [decide_eq_false h, Bool.false_and]
        rw [← e]; exact hq
    | non => cases (show k = .non from hk); (repeat walk_at "vs"); exact hq
    | bl b => cases (show k = .bl from hk); (repeat walk_at "vs"); exact hq
    | str b => cases (show k = .str from hk); (repeat walk_at "vs"); exact hq
    | ref b =>
      have e : (k == .int) = false := by rcases hk with ⟨_, _, rfl⟩ | ⟨_, _, rfl⟩ | ⟨_, _, rfl⟩ <;> rfl
      rw [e]; (repeat walk_at "vs"); exact hq
    | _ => exact hk.elim
def sp_Ways_is_wish (a : Adr) : Sp := fun vs H Q _ => ∃ (w dw p : Addr) (cs : List Int) (t : Int), vs = [.ref w, .ref p] ∧ H w = some (.ins a.c_Ways dw [("many", .int cs.length), ("toll", .int t)]) ∧ H p = some (.tup (cs.map V.int)) ∧ cs.length ≤ 8 ∧ (∀ c ∈ cs, 0 ≤ c ∧ c ≤ 1000000000000000000) ∧ ∀ H', Ext H H' → Q (.bl true) H'
theorem ok_Ways_is_wish (T : Txt K mg a) : FnOk P w K mg base (CXU P w) 3 a.f_Ways_is_wish a.d_Ways_is_wish ["self", "thing"] (sp_Ways_is_wish a) := by
  refine T.F_Ways_is_wish.okU sc_Ways_is_wish (fun vs H Q E h => ?_) (fun cdv A outer s H vs Q E hr h => ?_)
  · obtain ⟨w, dw, p, cs, t, rfl, hw, hp, h8, ham, hq⟩ := h
    rfl
  · obtain ⟨w, dw, p, cs, t, rfl, hw, hp, h8, ham, hq⟩ := h
    have zc_Changer := T.cl_Changer
    have zn_Changer_reckoned := T.na_Changer_reckoned
    have zn_Changer_world := T.na_Changer_world
    have zn_Changer_standing := T.na_Changer_standing
    have zn_Changer_spent := T.na_Changer_spent
    have zc_Ways := T.cl_Ways
    have zn_Ways_many := T.na_Ways_many
    have zn_Ways_toll := T.na_Ways_toll
    refine ⟨_, (pss_cons (ps_if (PW.pt (pw_or (pt_not (ptT (pe_callB cIsin (by rfl) T.n_isinstance PyProof.Rows.boot_isinstance (pa_cons (pv 1) (pa_cons (pe_bltn (v := V.ty "tuple") (by rfl) T.n_tuple PyProof.Rows.boot_tuple rfl) pa_nil))) (fun _ => rfl))) (pw_or1 (pt_cmpR op_ne (pe_callB cLen (by rfl) T.n_len PySem.boot_len (pa_cons (pv 1) pa_nil)) (pe_fld (pv 0) rfl) (nomark _))))) (pss_one (ps_ret pe_bl)) pss_nil)
      (pss_one (ps_ret (pe_callB (cAll rfl) (by rfl) T.n_all PyProof.Rows.boot_all (pa_cons (pe_comp (["charge"] : List Str) ([] : List Str) [] rfl ⟨rfl, by decide +kernel, by decide +kernel, by rfl, trivial⟩ (pi_tup (pv 1)) (fun _ _ _ _ => ⟨(pg_name (i := 0) (by show ((["charge"] : List Str) ++ ([] : List Str)).Nodup; decide +kernel) rfl (by first | exact Or.inl rfl | exact Or.inr rfl)), (show PTs _ [] [] from trivial), (pe_call (ok_is_amount T) (hr.mono (by decide)) (by rfl) T.m_is_amount T.F_is_amount.kp T.b_is_amount .nil passU (pa_cons (pv 0) pa_nil))⟩)) pa_nil))))), ?_⟩
    repeat walk_at "vs"
    refine r_isT (HasK.t hp) ?_
    repeat walk_at "vs"
    refine r_lenT hp ?_
    rw [List.length_map]
    repeat walk_at "vs"
    refine iteN (fun q => (q rfl).elim) (fun _ => ?_)
    repeat walk_at "vs"
    refine ⟨p, rfl, ⟨_, SqT.of hp⟩, fun acc hn _ _ _ _ => comp_mapT V.int V.bl (fun _ => true) (SqT.of hp) (by omega) hn (fun i x H2 Y hx e hY => ?_) fun H2 e ha => ?_⟩
    · repeat walk_at "vs"
      refine ⟨.int x, .int, rfl, rfl, ?_⟩
      have hm := ham x (List.mem_of_getElem? hx)
      have hpl : amt (.int x) = true := by show (decide (0 ≤ x) && decide (x ≤ 1000000000000000000)) = true; rw [decide_eq_true hm.1, decide_eq_true hm.2]; rfl
      rw [hpl]
      exact hY _ Ext.rfl'
    · repeat walk_at "vs"
      refine r_all ha ?_
      have ea : (cs.map fun _ => true).all id = true := by rw [List.all_eq_true]; intro x hx; obtain ⟨_, _, rfl⟩ := List.mem_map.mp hx; rfl
      rw [ea]
      exact hq H2 e
def sp_Rule_pay (a : Adr) : Sp := fun vs H Q _ => ∃ (r p : Addr) (ns cs : List Int) (h t z : Int), vs = [.ref r, .ref p] ∧ WaysAt a H r ns h t z ∧ H p = some (.tup (cs.map V.int)) ∧ WOk ns h t ∧ ChOk ns cs ∧ ∀ H', WaysAt a H' r (upW ns cs t) (goW ns cs t h) t (z + prc cs h (goW ns cs t h) t) → But r H H' → Q (.int (prc cs h (goW ns cs t h) t)) H'
theorem ok_Rule_pay (T : Txt K mg a) : FnOk P w K mg base (CXU P w) 4 a.f_Rule_pay a.d_Rule_pay ["self", "wish"] (sp_Rule_pay a) := by
  refine T.F_Rule_pay.okU sc_Rule_pay (fun vs H Q E h => ?_) (fun cdv A outer s H vs Q E hr h => ?_)
  · obtain ⟨r, p, ns, cs, h, t, z, rfl, hB, hp, hk, hc, hq⟩ := h
    rfl
  · obtain ⟨r, p, ns, cs, h, t, z, rfl, hB, hp, hk, hc, hq⟩ := h
    have zc_Changer := T.cl_Changer
    have zn_Changer_reckoned := T.na_Changer_reckoned
    have zn_Changer_world := T.na_Changer_world
    have zn_Changer_standing := T.na_Changer_standing
    have zn_Changer_spent := T.na_Changer_spent
    have zc_Ways := T.cl_Ways
    have zn_Ways_many := T.na_Ways_many
    have zn_Ways_toll := T.na_Ways_toll
    refine ⟨_, (pss_cons (ps_if (pt_not (ptT (pe_meth (pe_fld (pv 0) rfl) T.cl_Ways T.me_Ways_is_wish (ok_Ways_is_wish T) (hr.mono (by decide)) T.b_Ways_is_wish .nil passU (pa_cons (pv 1) pa_nil)) (fun _ => rfl))) (pss_one ps_never) pss_nil)
      (pss_cons (ps_set (i := 2) sc_Rule_pay.nd rfl (by first | exact Or.inl rfl | exact Or.inr rfl) (pe_meth (pv 0) T.cl_Changer T.me_Changer_target (ok_Changer_target T) (hr.mono (by decide)) T.b_Changer_target .nil passU (pa_cons (pv 1) pa_nil)))
      (pss_cons (ps_set (i := 3) sc_Rule_pay.nd rfl (by first | exact Or.inl rfl | exact Or.inr rfl) (pe_meth (pv 0) T.cl_Changer T.me_Changer_price_to (ok_Rule_price_to T) (hr.mono (by decide)) T.b_Rule_price_to .nil passU (pa_cons (pv 1) (pa_cons (pv 2) pa_nil))))
      (pss_cons (ps_expr (pe_meth (pv 0) T.cl_Changer T.me_Changer_learn (ok_Changer_learn T) (hr.mono (by decide)) T.b_Changer_learn .nil passU (pa_cons (pv 1) pa_nil)))
      (pss_cons (ps_fld (pv 0) (pv 2) rfl)
      (pss_cons (ps_fld (pv 0) (pe_op oAddV (pe_fld (pv 0) rfl) (pv 3)) rfl)
      (pss_one (ps_ret (pv 3))))))))), ?_⟩
    have g8 := hk.hi
    have gi := goW_in hk hc
    have cl := hc.len
    obtain ⟨dx, wo, dw, q, h1, h2, h3⟩ := hB.ex
    repeat walk_at "vs"
    refine ⟨wo, dw, p, cs, t, rfl, by rw [cl]; exact h2, hp, by omega, hc.am, fun H1 e1 => ?_⟩
    have h11 := e1 _ _ h1
    repeat walk_at "vs"
    refine ⟨r, p, ns, cs, h, t, z, rfl, hB.ext e1, e1 _ _ hp, hk, hc, fun H2 e2 => ?_⟩
    have x2 := e1.tr e2
    have h12 := x2 _ _ h1
    repeat walk_at "vs"
    refine ⟨r, p, ns, cs, h, goW ns cs t h, t, z, rfl, hB.ext x2, x2 _ _ hp, gi.1, by omega, ?_⟩
    repeat walk_at "vs"
    refine ⟨r, p, ns, cs, h, t, z, rfl, hB.ext x2, x2 _ _ hp, hk, hc, fun H3 B3 b3 => ?_⟩
    obtain ⟨dx3, wo3, dw3, q3, y1, y2, y3⟩ := B3.ex
    repeat walk_at "vs"
    refine r_sat y1 T.cl_Changer T.na_Changer_standing (lt1000 rfl) fun H4 q4 b4 => ?_
    repeat walk_at "vs"
    refine r_sat q4 T.cl_Changer T.na_Changer_spent (lt1000 rfl) fun H5 q5 b5 => ?_
    repeat walk_at "vs"
    have nw : wo3 ≠ r := (ne_of y1 y2 (by intro z; injection z with _ _ z; exact absurd (congrArg List.length z) (by show 4 ≠ 2; decide))).symm
    have nq : q3 ≠ r := ne_of y3 y1 (by intro z; cases z)
    exact hq H5 ⟨dx3, wo3, dw3, q3, q5, b5 _ _ nw (b4 _ _ nw y2), b5 _ _ nq (b4 _ _ nq y3)⟩ (Ext.toBut x2 (b3.tr (b4.tr b5)))
def sp_Rule_state (a : Adr) : Sp := fun vs H Q _ => ∃ (r : Addr) (ns : List Int) (h t z : Int), vs = [.ref r] ∧ WaysAt a H r ns h t z ∧ Q (.int h) H
theorem ok_Rule_state (T : Txt K mg a) : FnOk P w K mg base (CXU P w) 1 a.f_Rule_state a.d_Rule_state ["self"] (sp_Rule_state a) := by
  refine T.F_Rule_state.okU sc_Rule_state (fun vs H Q E h => ?_) (fun cdv A outer s H vs Q E hr h => ?_)
  · obtain ⟨r, ns, h, t, z, rfl, hB, hq⟩ := h
    rfl
  · obtain ⟨r, ns, h, t, z, rfl, hB, hq⟩ := h
    have zc_Changer := T.cl_Changer
    have zn_Changer_reckoned := T.na_Changer_reckoned
    have zn_Changer_world := T.na_Changer_world
    have zn_Changer_standing := T.na_Changer_standing
    have zn_Changer_spent := T.na_Changer_spent
    have zc_Ways := T.cl_Ways
    have zn_Ways_many := T.na_Ways_many
    have zn_Ways_toll := T.na_Ways_toll
    refine ⟨_, (pss_one (ps_ret (pe_fld (pv 0) rfl))), ?_⟩
    obtain ⟨dx, wo, dw, q, h1, h2, h3⟩ := hB.ex
    repeat walk_at "vs"
    exact hq
theorem RefsH.tk {H H' : Hp} (e : TK H H') {vs : List V} {Ls : List (List Int)} (r : RefsH H vs Ls) : RefsH H' vs Ls := by
  induction r with
  | nil => exact .nil
  | cons x _ ih => exact .cons (e _ _ x) ih
theorem RefsH.snocN {H : Hp} {a : Addr} {L : List Int} (ha : H a = some (.tup (L.map V.int))) {vs : List V} {Ls : List (List Int)} (r : RefsH H vs Ls) : RefsH H (vs ++ [.ref a]) (Ls ++ [L]) := by
  induction r with
  | nil => exact .cons ha .nil
  | cons x _ ih => exact .cons x ih
theorem WaysAt.kp {a : Adr} {H H' : Hp} {r : Addr} {ns : List Int} {h t z : Int} (e : ∀ b o, H b = some o → (∀ oc d, o ≠ czO oc d) → H' b = some o) (k : WaysAt a H r ns h t z) : WaysAt a H' r ns h t z := by
  obtain ⟨dx, wo, dw, q, h1, h2, h3⟩ := k.ex
  exact ⟨dx, wo, dw, q, e _ _ h1 (fun _ _ z => by cases z), e _ _ h2 (fun _ _ z => by cases z), e _ _ h3 (fun _ _ z => by cases z)⟩
theorem WaysAt.butL {a : Adr} {H H' : Hp} {r x : Addr} {ns : List Int} {h t z : Int} {ys : List V} (n : ∀ dx wo q, H r = some (.ins a.c_Changer dx (wfl wo q h z)) → q ≠ x) (hx : H x = some (.lst ys)) (e : But x H H') (k : WaysAt a H r ns h t z) : WaysAt a H' r ns h t z := by
  obtain ⟨dx, wo, dw, q, h1, h2, h3⟩ := k.ex
  exact ⟨dx, wo, dw, q, e _ _ (fun z => by rw [z, hx] at h1; cases h1) h1, e _ _ (fun z => by rw [z, hx] at h2; cases h2) h2, e _ _ (n _ _ _ h1) h3⟩
theorem WaysAt.extT {a : Adr} {H H' : Hp} {r : Addr} {ns : List Int} {h t z : Int} (e : ExtT H H') (k : WaysAt a H r ns h t z) : WaysAt a H' r ns h t z := by
  obtain ⟨dx, wo, dw, q, h1, h2, h3⟩ := k.ex
  exact ⟨dx, wo, dw, q, e _ _ h1 rfl, e _ _ h2 rfl, e _ _ h3 rfl⟩
abbrev LamW (H : Hp) (f d : Addr) : Prop := LamHC H f lq_enemy_of_changer (lamA le_enemy_of_changer) (lamB le_enemy_of_changer) (lamS le_enemy_of_changer) "n" d
def sp_wishes_against (a : Adr) : Sp := fun vs H Q _ => ∃ (r f d : Addr) (n : Nat) (t : Int) (m : Nat), vs = [.ref r, .int (m : Nat), .ref f] ∧ WaysAt a H r (fstW n t 0) 0 t 0 ∧ 1 ≤ n ∧ n ≤ 8 ∧ 0 ≤ t ∧ t ≤ 1000000000000000000 ∧ LamW H f d ∧ CellH H d (.int (n : Nat)) ∧ m ≤ 1000 ∧
  ∀ wl ys z H', H wl = none → H' wl = some (.lst ys) → RefsH H' ys (wsW n t m) → WaysAt a H' r (nsW n t m) (haW n t m) t z → CellH H' d (.int (n : Nat)) → But r H H' → Q (.ref wl) H'
theorem ok_wishes_against (T : Txt K mg a) : FnOk P w K mg base (CXU P w) 5 a.f_wishes_against a.d_wishes_against ["rule", "many", "worst"] (sp_wishes_against a) := by
  refine T.F_wishes_against.okU sc_wishes_against (fun vs H Q E h => ?_) (fun cdv A outer s H vs Q E hr h => ?_)
  · obtain ⟨r, f, d, n, t, m, rfl, hB, n1, n8, t0, t1, hL, hC, hm, hq⟩ := h
    rfl
  · obtain ⟨r, f, d, n, t, m, rfl, hB, n1, n8, t0, t1, hL, hC, hm, hq⟩ := h
    have zc_Changer := T.cl_Changer
    have zn_Changer_reckoned := T.na_Changer_reckoned
    have zn_Changer_world := T.na_Changer_world
    have zn_Changer_standing := T.na_Changer_standing
    have zn_Changer_spent := T.na_Changer_spent
    have zc_Ways := T.cl_Ways
    have zn_Ways_many := T.na_Ways_many
    have zn_Ways_toll := T.na_Ways_toll
    refine ⟨_, (pss_cons (ps_set (i := 3) sc_wishes_against.nd rfl (by first | exact Or.inl rfl | exact Or.inr rfl) (pe_lst pa_nil))
      (pss_cons (ps_for PassesOwn.never rfl (pi_range1 rfl T.n_range (pa_cons (pv 1) pa_nil)) (pg_name (i := 4) sc_wishes_against.nd rfl (by first | exact Or.inl rfl | exact Or.inr rfl)) (pss_cons (ps_set (i := 5) sc_wishes_against.nd rfl (by first | exact Or.inl rfl | exact Or.inr rfl) (pe_callVC2 (k := 0) (i := 2) (y := "n") (z := "foe") (qual := lq_enemy_of_changer) (params := lamA le_enemy_of_changer) (lb := lamB le_enemy_of_changer) (sc := lamS le_enemy_of_changer) rfl (by first | exact Or.inl rfl | exact Or.inr (Or.inl rfl)) (hr.mono (by decide)) (pa_cons (pv 0) pa_nil) ⟨rfl, rfl, rfl, rfl, by decide +kernel, by decide +kernel, rfl, by decide +kernel⟩ (fun _ _ _ _ _ => rfl) (fun _ _ _ _ _ _ => (pe_callTy cTuple (by rfl) T.n_tuple PyProof.Rows.boot_tuple (pa_cons (pe_comp (["way"] : List Str) (["foe"] : List Str) [0] rfl ⟨rfl, by decide +kernel, by decide +kernel, by rfl, ⟨⟨rfl, by first | exact Or.inl rfl | exact Or.inr rfl, by first | exact Or.inl rfl | exact Or.inr rfl⟩, trivial⟩⟩ (pi_range1 rfl T.n_range (pa_cons (pv 1) pa_nil)) (fun _ _ _ _ => ⟨(pg_name (i := 0) (by show ((["way"] : List Str) ++ (["foe"] : List Str)).Nodup; decide +kernel) rfl (by first | exact Or.inl rfl | exact Or.inr rfl)), (show PTs _ [] [] from trivial), (pe_ifExp (pt_cmpR (oEq (Room.lam1 (j := 0) (by decide) hr)) (pv 0) (pe_meth0 (pv 1) T.cl_Changer T.me_Changer_state (ok_Rule_state T) (Room.lam1 (by decide) hr) T.b_Rule_state .nil passU) (nomark _)) pe_int pe_int)⟩)) pa_nil)))))
      (pss_cons (ps_expr (pe_meth (pv 0) T.cl_Changer T.me_Changer_pay (ok_Rule_pay T) (hr.mono (by decide)) T.b_Rule_pay .nil passU (pa_cons (pv 5) pa_nil)))
      (pss_one (ps_expr (pe_bm PySem.F.plainAttrs_list PySem.F.slot_list_append PySem.F.type_list_append mt_append (pv 3) (pa_cons (pv 5) pa_nil)))))))
      (pss_one (ps_ret (pv 3))))), ?_⟩
    repeat walk_at "vs"
    intro wl H1 n1' q1 e1
    repeat walk_at "vs"
    refine ⟨_, rfl, by omega, by omega, for_range (fun i σ H3 => ∃ (u1 u2 : Option V) (z : Int) (ys : List V), σ = [some (.ref r), some (.int (m : Nat)), some (.ref f), some (.ref wl), u1, u2] ∧ WaysAt a H3 r (nsW n t i) (haW n t i) t z ∧ (∀ dx wo q, H3 r = some (.ins a.c_Changer dx (wfl wo q (haW n t i) z)) → q ≠ wl) ∧ H3 wl = some (.lst ys) ∧ RefsH H3 ys (wsW n t i) ∧ LamW H3 f d ∧ CellH H3 d (.int (n : Nat)) ∧ But r H H3)
      ⟨none, none, 0, [], rfl, hB.ext e1, ?_, q1, .nil, hL.mono (Ext.toT e1), hC.mono (Ext.toT e1), fun b o _ hb => e1 b o hb⟩ ?_ ?_⟩
    · intro dx wo q h z
      obtain ⟨dx', wo', dw', q', g1, g2, g3⟩ := hB.ex
      rw [e1 _ _ g1] at h
      cases h
      rw [z, n1'] at g3
      cases g3
    · rintro i σ H3 hi ⟨u1, u2, z, ys, rfl, B3, nq3, q3, r3, L3, C3, b3⟩
      obtain ⟨k3, l3⟩ := stW_ok n1 n8 t0 t1 i
      have hc3 := ch_ok n1 n8 t0 t1 i
      obtain ⟨oc0, uc0, hoc0, _, _⟩ := id C3
      have B3d : WaysAt a (del H3 d) r (nsW n t i) (haW n t i) t z := B3.kp fun b o h no => by
        rw [del_ne (fun z => by rw [z, hoc0] at h; cases h; exact no _ _ rfl)]
        exact h
      obtain ⟨dx, wo, dw, q, h1, h2, h3⟩ := B3d.ex
      repeat walk_at "vs"
      refine ⟨f, d, .int (n : Nat), rfl, L3, ?_⟩
      repeat walk_at "vs"
      refine ⟨.ref r, rfl, L3, C3, fun pins c s' => ?_⟩
      repeat walk_at "vs"
      refine ⟨_, rfl, by omega, by omega, fun acc hn _ _ _ _ => comp_mapR V.int (fun (j : Nat) => if (j : Int) = haW n t i then (1 : Int) else 0) (by omega) hn (fun j H4 Y hj e4 hY => ?_) fun H4 e4 ha => ?_⟩
      · have h14 := e4 _ _ h1
        repeat walk_at "vs"
        refine ⟨r, _, _, t, z, rfl, B3d.ext e4, ?_⟩
        repeat walk_at "vs"
        refine iteD (fun cc => ?_) (fun cc => ?_)
        · rw [if_pos (by omega)] at hY
          repeat walk_at "vs"
          exact hY _ Ext.rfl'
        · rw [if_neg (by omega)] at hY
          repeat walk_at "vs"
          exact hY _ Ext.rfl'
      · repeat walk_at "vs"
        refine r_tupleL ha fun tp H5 n5 q5 e5 => ?_
        intro nd5 oc hoc
        have q5' : H5 tp = some (.tup ((wiW n t i).map V.int)) := by
          rw [q5]
          unfold wiW chW
          rw [Int.toNat_natCast]
        obtain ⟨H6, eH6, e6, q6⟩ : ∃ H6, upd H5 d (czO oc d) = H6 ∧ Ext H3 H6 ∧ H6 tp = some (.tup ((wiW n t i).map V.int)) := by
          refine ⟨_, rfl, fun b o h => ?_, by rw [upd_ne (ne_of_none q5' nd5)]; exact q5'⟩
          by_cases z : b = d
          · subst z; rw [hoc] at h; cases h; exact upd_same
          · rw [upd_ne z]; exact (e4.tr e5) _ _ (by rw [del_ne z]; exact h)
        rw [eH6]
        have B6 := B3.ext e6
        obtain ⟨dx6, wo6, dw6, q6', h16, h26, h36⟩ := B6.ex
        repeat walk_at "vs"
        refine ⟨r, tp, _, wiW n t i, _, t, z, rfl, B6, q6, k3, hc3, fun H7 B7 b7 => ?_⟩
        have nwr : wl ≠ r := ne_of (e6 _ _ q3) h16 (by intro z; cases z)
        have q7 := b7 _ _ nwr (e6 _ _ q3)
        have q67 := b7 _ _ (ne_of q6 h16 (by intro z; cases z)) q6
        have tk7 : TK H6 H7 := fun b xs h => b7 b _ (ne_of h h16 (by intro z; cases z)) h
        have L7 := (L3.mono (Ext.toT e6)).but h16 b7
        have C7 := (C3.mono (Ext.toT e6)).but h16 b7
        have l3' := r3.length
        rw [wsW_len] at l3'
        repeat walk_at "vs"
        refine r_append q7 (by omega) fun H8 q8 b8 => ?_
        have tk8 := tk_butL q7 b8
        have nq7 : ∀ dx wo q, H7 r = some (.ins a.c_Changer dx (wfl wo q (haW n t (i + 1)) (z + prc (wiW n t i) (haW n t i) (haW n t (i + 1)) t))) → q ≠ wl := fun dx' wo' qq hh zz => by
          obtain ⟨dx7, wo7, dw7, q7', g17, g27, g37⟩ := B7.ex
          have : qq = q7' := by rw [g17] at hh; cases hh; rfl
          rw [← this, zz, q7] at g37
          have l1 : (nsW n t (i + 1)).length = n := (stW_ok n1 n8 t0 t1 (i + 1)).2
          cases ys with
          | nil =>
            have := congrArg List.length (show [] = (nsW n t (i + 1)).map V.int by injection g37 with g; injection g)
            rw [List.length_map, l1] at this
            simp at this
            omega
          | cons y0 yr =>
            cases hns : nsW n t (i + 1) with
            | nil => rw [hns] at l1; simp at l1; omega
            | cons x0 xr =>
              have g : y0 :: yr = (nsW n t (i + 1)).map V.int := by injection g37 with g; injection g
              rw [hns] at g
              obtain ⟨a0, ea0, _⟩ := r3.get 0 y0 rfl
              rw [ea0] at g
              cases g
        refine ⟨_, _, _, _, rfl, WaysAt.butL nq7 q7 b8 B7, ?_, q8, ?_, L7.butL q7 b8, C7.butL q7 b8, fun b o nb hb => ?_⟩
        · intro dx' wo' qq hh
          obtain ⟨dx7, wo7, dw7, q7', g17, g27, g37⟩ := B7.ex
          have nr8 : r ≠ wl := Ne.symm nwr
          rw [b8 _ _ nr8 g17] at hh
          cases hh
          exact nq7 _ _ _ g17
        · rw [wsW_succ]
          exact RefsH.snocN (tk8 _ _ q67) ((RefsH.tk (tk7.tr tk8)) (r3.mono e6))
        · exact b8 b o (ne_of_none hb n1') (b7 b o nb (e6 b o (b3 b o nb hb)))
    · rintro σ H3 ⟨u1, u2, z, ys, rfl, B3, nq3, q3, r3, L3, C3, b3⟩
      rw [Int.toNat_natCast] at B3 r3
      repeat walk_at "vs"
      exact hq wl ys z H3 n1' q3 r3 B3 C3 b3
def sp_Ways_is_state (a : Adr) : Sp := fun vs H Q _ => ∃ (w dw : Addr) (n h t : Int), vs = [.ref w, .int h] ∧ H w = some (.ins a.c_Ways dw [("many", .int n), ("toll", .int t)]) ∧ 0 ≤ h ∧ h < n ∧ Q (.bl true) H
theorem ok_Ways_is_state (T : Txt K mg a) : FnOk P w K mg base (CXU P w) 2 a.f_Ways_is_state a.d_Ways_is_state ["self", "thing"] (sp_Ways_is_state a) := by
  refine T.F_Ways_is_state.okU sc_Ways_is_state (fun vs H Q E h => ?_) (fun cdv A outer s H vs Q E hr h => ?_)
  · obtain ⟨w, dw, n, h, t, rfl, hw, h0, h1, hq⟩ := h
    rfl
  · obtain ⟨w, dw, n, h, t, rfl, hw, h0, h1, hq⟩ := h
    have zc_Changer := T.cl_Changer
    have zn_Changer_reckoned := T.na_Changer_reckoned
    have zn_Changer_world := T.na_Changer_world
    have zn_Changer_standing := T.na_Changer_standing
    have zn_Changer_spent := T.na_Changer_spent
    have zc_Ways := T.cl_Ways
    have zn_Ways_many := T.na_Ways_many
    have zn_Ways_toll := T.na_Ways_toll
    refine ⟨_, (pss_one (ps_ret (pe_and (pe_call (ok_is_whole_number T) (hr.mono (by decide)) (by rfl) T.m_is_whole_number T.F_is_whole_number.kp T.b_is_whole_number .nil passU (pa_cons (pv 1) pa_nil)) (pe_one (pe_chain op_le op_lt pe_int (pv 1) (pe_fld (pv 0) rfl)))))), ?_⟩
    repeat walk_at "vs"
    refine ⟨.int h, .int, rfl, rfl, ?_⟩
    repeat walk_at "vs"
    rw [decide_eq_true h0]
    repeat walk_at "vs"
    rw [decide_eq_true h1]
    exact hq
def sp_Rule_init (a : Adr) : Sp := fun vs H Q _ => ∃ (x dx w dw : Addr) (n h t : Int), vs = [.ref x, .ref w, .int h] ∧ H x = some (.ins a.c_Changer dx []) ∧ H w = some (.ins a.c_Ways dw [("many", .int n), ("toll", .int t)]) ∧ 0 ≤ h ∧ h < n ∧ ∀ H', H' x = some (.ins a.c_Changer dx [("world", .ref w), ("standing", .int h), ("spent", .int 0)]) → But x H H' → Q .non H'
theorem ok_Rule_init (T : Txt K mg a) : FnOk P w K mg base (CXU P w) 3 a.f_Rule_init a.d_Rule_init ["self", "world", "start"] (sp_Rule_init a) := by
  refine T.F_Rule_init.okU sc_Rule_init (fun vs H Q E h => ?_) (fun cdv A outer s H vs Q E hr h => ?_)
  · obtain ⟨x, dx, w, dw, n, h, t, rfl, hx, hw, h0, h1, hq⟩ := h
    rfl
  · obtain ⟨x, dx, w, dw, n, h, t, rfl, hx, hw, h0, h1, hq⟩ := h
    have zc_Changer := T.cl_Changer
    have zn_Changer_reckoned := T.na_Changer_reckoned
    have zn_Changer_world := T.na_Changer_world
    have zn_Changer_standing := T.na_Changer_standing
    have zn_Changer_spent := T.na_Changer_spent
    have zc_Ways := T.cl_Ways
    have zn_Ways_many := T.na_Ways_many
    have zn_Ways_toll := T.na_Ways_toll
    refine ⟨_, (pss_cons (ps_if (pt_not (ptT (pe_meth (pv 1) T.cl_Ways T.me_Ways_is_state (ok_Ways_is_state T) (hr.mono (by decide)) T.b_Ways_is_state .nil passU (pa_cons (pv 2) pa_nil)) (fun _ => rfl))) (pss_one ps_never) pss_nil)
      (pss_cons (ps_fld (pv 0) (pv 1) rfl)
      (pss_cons (ps_fld (pv 0) (pv 2) rfl)
      (pss_one (ps_fld (pv 0) pe_int rfl))))), ?_⟩
    repeat walk_at "vs"
    refine ⟨w, dw, n, h, t, rfl, hw, h0, h1, ?_⟩
    repeat walk_at "vs"
    refine r_sat hx T.cl_Changer T.na_Changer_world (lt1000 rfl) fun H2 h2 b2 => ?_
    repeat walk_at "vs"
    refine r_sat h2 T.cl_Changer T.na_Changer_standing (lt1000 rfl) fun H3 h3 b3 => ?_
    repeat walk_at "vs"
    refine r_sat h3 T.cl_Changer T.na_Changer_spent (lt1000 rfl) fun H4 h4 b4 => ?_
    exact hq H4 h4 (But.tr (But.tr b2 b3) b4)
def sp_Ways_init (a : Adr) : Sp := fun vs H Q _ => ∃ x dx v u, vs = [.ref x, v, u] ∧ H x = some (.ins a.c_Ways dx []) ∧ ∀ H', H' x = some (.ins a.c_Ways dx [("many", v), ("toll", u)]) → But x H H' → Q .non H'
theorem ok_Ways_init (T : Txt K mg a) : FnOk P w K mg base (CXU P w) 1 a.f_Ways_init a.d_Ways_init ["self", "many", "toll"] (sp_Ways_init a) := by
  refine T.F_Ways_init.okU sc_Ways_init (fun vs H Q E h => ?_) (fun cdv A outer s H vs Q E hr h => ?_)
  · obtain ⟨x, dx, v, u, rfl, hx, hq⟩ := h
    rfl
  · obtain ⟨x, dx, v, u, rfl, hx, hq⟩ := h
    have zc_Changer := T.cl_Changer
    have zn_Changer_reckoned := T.na_Changer_reckoned
    have zn_Changer_world := T.na_Changer_world
    have zn_Changer_standing := T.na_Changer_standing
    have zn_Changer_spent := T.na_Changer_spent
    have zc_Ways := T.cl_Ways
    have zn_Ways_many := T.na_Ways_many
    have zn_Ways_toll := T.na_Ways_toll
    refine ⟨_, (pss_cons (ps_fld (pv 0) (pv 1) rfl)
      (pss_one (ps_fld (pv 0) (pv 2) rfl))), ?_⟩
    repeat walk_at "vs"
    refine r_sat hx T.cl_Ways T.na_Ways_many (lt1000 rfl) fun H1 h1 b1 => ?_
    repeat walk_at "vs"
    refine r_sat h1 T.cl_Ways T.na_Ways_toll (lt1000 rfl) fun H2 h2 b2 => ?_
    exact hq H2 h2 (b1.tr b2)
def fot (m : Int) : V → Bool
  | .int i => decide (1 ≤ i) && decide (i ≤ m)
  | _ => false
def sp_is_from_one_to : Sp := fun vs H Q _ => ∃ x k m, vs = [x, .int m] ∧ HasK H x k ∧ Q (.bl (fot m x)) H
theorem ok_is_from_one_to (T : Txt K mg a) : FnOk P w K mg base (CXU P w) 2 a.f_is_from_one_to a.d_is_from_one_to ["thing", "most"] (sp_is_from_one_to) := by
  refine T.F_is_from_one_to.okU sc_is_from_one_to (fun vs H Q E h => ?_) (fun cdv A outer s H vs Q E hr h => ?_)
  · obtain ⟨x, k, m, rfl, hk, hq⟩ := h
    rfl
  · obtain ⟨x, k, m, rfl, hk, hq⟩ := h
    refine ⟨_, (pss_one (ps_ret (pe_and (pe_call (ok_is_whole_number T) (hr.mono (by decide)) (by rfl) T.m_is_whole_number T.F_is_whole_number.kp T.b_is_whole_number .nil passU (pa_cons (pv 0) pa_nil)) (pe_one (pe_chain op_le op_le pe_int (pv 0) (pv 1)))))), ?_⟩
    repeat walk_at "vs"
    refine ⟨x, k, rfl, hk, ?_⟩
    cases x with
    | int i =>
      cases (show k = .int from hk)
      repeat walk_at "vs"
      refine iteD (fun h => ?_) (fun h => ?_)
      · repeat walk_at "vs"
        have e : fot m (.int i) = decide (i ≤ m) := by show (decide (1 ≤ i) && _) = _; rw [decide_eq_true h, Bool.true_and]
        rw [← e]; exact hq
      · repeat walk_at "vs"
        have e : fot m (.int i) = false := by show (decide (1 ≤ i) && _) = _; rw [decide_eq_false h, Bool.false_and]
        rw [← e]; exact hq
    | non => cases (show k = .non from hk); (repeat walk_at "vs"); exact hq
    | bl b => cases (show k = .bl from hk); (repeat walk_at "vs"); exact hq
    | str b => cases (show k = .str from hk); (repeat walk_at "vs"); exact hq
    | ref b =>
      have e : (k == .int) = false := by rcases hk with ⟨_, _, rfl⟩ | ⟨_, _, rfl⟩ | ⟨_, _, rfl⟩ <;> rfl
      rw [e]; (repeat walk_at "vs"); exact hq
    | _ => exact hk.elim
def sp_Changer_init (a : Adr) : Sp := fun vs H Q _ => ∃ (x dx : Addr) (n h t : Int), vs = [.ref x, .int n, .int t, .int h] ∧ H x = some (.ins a.c_Changer dx []) ∧ 1 ≤ n ∧ n ≤ 8 ∧ 0 ≤ h ∧ h < n ∧ 0 ≤ t ∧ t ≤ 1000000000000000000 ∧ ∀ H', WaysAt a H' x (fstW n.toNat t h) h t 0 → But x H H' → Q .non H'
theorem ok_Changer_init (T : Txt K mg a) : FnOk P w K mg base (CXU P w) 5 a.f_Changer_init a.d_Changer_init ["self", "many", "toll", "start"] (sp_Changer_init a) := by
  refine T.F_Changer_init.okU sc_Changer_init (fun vs H Q E h => ?_) (fun cdv A outer s H vs Q E hr h => ?_)
  · obtain ⟨x, dx, n, h, t, rfl, hx, n1, n8, h0, h1, t0, t1, hq⟩ := h
    rfl
  · obtain ⟨x, dx, n, h, t, rfl, hx, n1, n8, h0, h1, t0, t1, hq⟩ := h
    have zc_Changer := T.cl_Changer
    have zn_Changer_reckoned := T.na_Changer_reckoned
    have zn_Changer_world := T.na_Changer_world
    have zn_Changer_standing := T.na_Changer_standing
    have zn_Changer_spent := T.na_Changer_spent
    have zc_Ways := T.cl_Ways
    have zn_Ways_many := T.na_Ways_many
    have zn_Ways_toll := T.na_Ways_toll
    refine ⟨_, (pss_cons (ps_if (PW.pt (pw_or (pt_not (ptT (pe_call (ok_is_from_one_to T) (hr.mono (by decide)) (by rfl) T.m_is_from_one_to T.F_is_from_one_to.kp T.b_is_from_one_to .nil passU (pa_cons (pv 1) (pa_cons pe_int pa_nil))) (fun _ => rfl))) (pw_or1 (pt_not (ptT (pe_call (ok_is_amount T) (hr.mono (by decide)) (by rfl) T.m_is_amount T.F_is_amount.kp T.b_is_amount .nil passU (pa_cons (pv 2) pa_nil)) (fun _ => rfl)))))) (pss_one ps_never) pss_nil)
      (pss_cons (ps_expr (pe_cmeth (C := a.c_Bound) (pe_glob (v := V.ref a.c_Bound) (by rfl) T.m_Bound rfl) T.cm_Bound_init (ok_Rule_init T) (hr.mono (by decide)) T.b_Rule_init .nil passU (pa_cons (pv 0) (pa_cons (pe_make T.mk_Ways (ok_Ways_init T) (hr.mono (by decide)) (by rfl) T.m_Ways T.b_Ways_init .nil passU (pa_cons (pv 1) (pa_cons (pv 2) pa_nil))) (pa_cons (pv 3) pa_nil)))))
      (pss_one (ps_fld (pv 0) (pe_comp (["way"] : List Str) (["start", "toll"] : List Str) [3, 2] rfl ⟨rfl, by decide +kernel, by decide +kernel, by rfl, ⟨⟨rfl, by first | exact Or.inl rfl | exact Or.inr rfl, by first | exact Or.inl rfl | exact Or.inr rfl⟩, ⟨rfl, by first | exact Or.inl rfl | exact Or.inr rfl, by first | exact Or.inl rfl | exact Or.inr rfl⟩, trivial⟩⟩ (pi_range1 rfl T.n_range (pa_cons (pv 1) pa_nil)) (fun _ _ _ _ => ⟨(pg_name (i := 0) (by show ((["way"] : List Str) ++ (["start", "toll"] : List Str)).Nodup; decide +kernel) rfl (by first | exact Or.inl rfl | exact Or.inr rfl)), (show PTs _ [] [] from trivial), (pe_ifExp (pt_cmpR (oEq hr) (pv 0) (pv 1) (nomark _)) pe_int (pv 2))⟩)) rfl)))), ?_⟩
    repeat walk_at "vs"
    refine ⟨.int n, .int, 8, rfl, rfl, ?_⟩
    rw [show fot 8 (.int n) = true by show (decide (1 ≤ n) && decide (n ≤ 8)) = true; rw [decide_eq_true n1, decide_eq_true n8]; rfl]
    repeat walk_at "vs"
    refine ⟨.int t, .int, rfl, rfl, ?_⟩
    rw [show amt (.int t) = true by show (decide (0 ≤ t) && decide (t ≤ 1000000000000000000)) = true; rw [decide_eq_true t0, decide_eq_true t1]; rfl]
    repeat walk_at "vs"
    intro w dw k1 k2 k3
    have nx : w ≠ x := (ne_of_none hx k1).symm
    have nx2 : dw ≠ x := (ne_of_none hx k2).symm
    refine ⟨w, dw, .int n, .int t, rfl, upd_same, fun H1 h1' b1 => ⟨rfl, ?_⟩⟩
    have x1 : Ext H H1 := fun b o hb => b1 b o (ne_of_none hb k1) (by rw [upd_ne (ne_of_none hb k1), upd_ne (ne_of_none hb k2)]; exact hb)
    repeat walk_at "vs"
    refine ⟨x, dx, w, dw, n, h, t, rfl, x1 _ _ hx, h1', h0, h1, fun H2 h2 b2 => ?_⟩
    repeat walk_at "vs"
    refine ⟨_, rfl, by omega, by omega, fun acc hn _ _ _ _ => comp_mapR V.int (fun (i : Nat) => if (i : Int) = h then (0 : Int) else t) (by omega) hn (fun i H3 Y hi e hY => ?_) fun H3 e3 ha => ?_⟩
    · repeat walk_at "vs"
      refine iteD (fun c => ?_) (fun c => ?_)
      · rw [if_pos c] at hY
        repeat walk_at "vs"
        exact hY _ Ext.rfl'
      · rw [if_neg c] at hY
        repeat walk_at "vs"
        exact hY _ Ext.rfl'
    · have h23 := e3 _ _ h2
      repeat walk_at "vs"
      refine r_sat h23 T.cl_Changer T.na_Changer_reckoned (lt1000 rfl) fun H4 h4 b4 => ?_
      have nw : acc ≠ x := (ne_of_none h2 hn).symm
      refine hq H4 ⟨dx, w, dw, acc, h4, ?_, b4 _ _ nw ha⟩ (Ext.toBut x1 (b2.tr (Ext.toBut e3 b4)))
      rw [fst_len, show ((n.toNat : Nat) : Int) = n by omega]
      exact b4 _ _ nx (e3 _ _ (b2 _ _ nx h1'))
abbrev TabC (a : Adr) (H : Hp) : Prop := TabR H a.tb_enemy_of_changer lp_enemy_of_changer lq_enemy_of_changer
structure EnW (H : Hp) (tp wl yl : Addr) (n : Nat) (t : Int) (m : Nat) : Prop where
  tt : H tp = some (.tup [.int 0, .ref wl, .ref yl])
  ww : ∃ ys, H wl = some (.lst ys) ∧ RefsH H ys (wsW n t m)
  yy : H yl = some (.lst ((wyI 0 ((wsW n t m).map (mvW t))).map V.int))
def sp_enemy_of_changer (a : Adr) : Sp := fun vs H Q _ => ∃ (n : Nat) (t : Int) (m : Nat), vs = [.int (n : Nat), .int t, .int (m : Nat)] ∧ 1 ≤ n ∧ n ≤ 8 ∧ 0 ≤ t ∧ t ≤ 1000000000000000000 ∧ m ≤ 1000 ∧ TabC a H ∧ TabB a H ∧
  ∀ tp wl yl H', NewT H wl → NewT H yl → wl ≠ yl → EnW H' tp wl yl n t m → TabC a H' → TabB a H' → ExtT H H' → Q (.ref tp) H'
theorem ok_enemy_of_changer (T : Txt K mg a) : FnOk P w K mg base (CXU P w) 7 a.f_enemy_of_changer a.d_enemy_of_changer ["n", "toll", "many"] (sp_enemy_of_changer a) := by
  refine T.F_enemy_of_changer.okL T.ck_enemy_of_changer sc_enemy_of_changer (fun vs H Q E h => ?_) (fun A outer s H vs Q E hr h => ?_)
  · obtain ⟨n, t, m, rfl, n1, n8, t0, t1, hm, hT, hTB, hq⟩ := h
    rfl
  · obtain ⟨n, t, m, rfl, n1, n8, t0, t1, hm, hT, hTB, hq⟩ := h
    have zc_Changer := T.cl_Changer
    have zn_Changer_reckoned := T.na_Changer_reckoned
    have zn_Changer_world := T.na_Changer_world
    have zn_Changer_standing := T.na_Changer_standing
    have zn_Changer_spent := T.na_Changer_spent
    have zc_Ways := T.cl_Ways
    have zn_Ways_many := T.na_Ways_many
    have zn_Ways_toll := T.na_Ways_toll
    refine ⟨_, (pss_cons (ps_set (i := 3) sc_enemy_of_changer.nd rfl (by first | exact Or.inl rfl | exact Or.inr rfl) (pe_make T.mk_Changer (ok_Changer_init T) (hr.mono (by decide)) (by rfl) T.m_Changer T.b1_Changer_init T.w_Changer_init passU (pa_cons (pv 0) (pa_cons (pv 1) pa_nil))))
      (pss_cons (ps_set (i := 4) sc_enemy_of_changer.nd rfl (by first | exact Or.inl rfl | exact Or.inr rfl) (pe_callC (i := 0) (ok_wishes_against T) (hr.mono (by decide)) (by rfl) T.m_wishes_against T.F_wishes_against.kp (T.b_wishes_against) rfl rfl rfl rfl (pa_cons (pv 3) (pa_cons (pv 2) (pa_cons (pe_lamCB (c := a.ck_enemy_of_changer) (P := a.tb_enemy_of_changer) rfl T.hd_enemy_of_changer rfl (by rfl)) pa_nil)))))
      (pss_one (ps_ret (pe_tup (pa_cons pe_int (pa_cons (pv 4) (pa_cons (pe_ix oIx (pe_call (ok_best T) (hr.mono (by decide)) (by rfl) T.m_best T.F_best.kp T.b_best .nil passU (pa_cons (pe_fld (pv 3) rfl) (pa_cons pe_int (pa_cons (pv 4) pa_nil)))) pe_int (fun _ _ => rfl)) pa_nil)))))))), ?_⟩
    repeat walk_at "vs"
    intro r dr k1 k2 k3
    refine ⟨r, dr, (n : Nat), 0, t, rfl, upd_same, by omega, by omega, by omega, by omega, t0, t1, fun H2 B2 b2 => ⟨rfl, ?_⟩⟩
    have x2 : Ext H H2 := fun b o h => b2 b o (ne_of_none h k1) (by rw [upd_ne (ne_of_none h k1), upd_ne (ne_of_none h k2)]; exact h)
    rw [Int.toNat_natCast] at B2
    repeat walk_at "vs"
    unfold tCallC
    repeat walk_at "vs"
    refine ⟨TabR.ext x2 hT, fun f H3 L3 T3 e3 b3 => ?_⟩
    obtain ⟨ps2, hp2⟩ := (TabR.ext x2 hT).is
    have TB3 : TabB a H3 := TabR.keep hp2 T.nt_best_enemy_of_changer b3 (TabR.ext x2 hTB)
    have x3 : ExtT H H3 := (Ext.toT x2).tr e3
    repeat walk_at "vs"
    refine ⟨.int (n : Nat), rfl, fun nd oc u hoc ru => ?_⟩
    generalize hdd : s.heap.objs.size + 1 = dd at nd L3 ⊢
    have eu : Ext H3 (upd H3 dd (czO oc dd)) := ext_upd nd
    have B3 := B2.extT e3
    have hd' : upd H3 dd (czO oc dd) dd = some (czO oc dd) := upd_same
    refine ⟨r, f, dd, n, t, m, rfl, B3.ext eu, n1, n8, t0, t1, L3.mono (Ext.toT eu), ⟨oc, u, upd_same, hoc, ru⟩, hm, fun wl ys z H4 nw q4 r4 B4 C4 b4 => ?_⟩
    obtain ⟨oc4, uc4, hoc4, _, _⟩ := id C4
    have nwd : wl ≠ dd := fun z => by rw [z, hd'] at nw; cases nw
    have nw3 : H3 wl = none := by rw [upd_ne nwd] at nw; exact nw
    have B5 : WaysAt a (del H4 dd) r (nsW n t m) (haW n t m) t z := B4.kp fun b o h no => by
      rw [del_ne (fun z => by rw [z, hoc4] at h; cases h; exact no _ _ rfl)]
      exact h
    obtain ⟨H5, eH5, b5, q5, r5, B5⟩ : ∃ H5, del H4 dd = H5 ∧ But r H3 H5 ∧ H5 wl = some (.lst ys) ∧ RefsH H5 ys (wsW n t m) ∧ WaysAt a H5 r (nsW n t m) (haW n t m) t z := by
      refine ⟨_, rfl, fun b o nb h => ?_, by rw [del_ne nwd]; exact q4, RefsH.tk (fun b xs h => by rw [del_ne (fun z => by rw [z, hoc4] at h; cases h)]; exact h) r4, B5⟩
      have nbd : b ≠ dd := ne_of_none h nd
      rw [del_ne nbd]
      exact b4 b o nb (by rw [upd_ne nbd]; exact h)
    rw [eH5]
    obtain ⟨dx3, wo3, dw3, q3', g1, g2, g3⟩ := B3.ex
    obtain ⟨dx5, wo5, dw5, q5', y1, y2, y3⟩ := B5.ex
    have l5 : (nsW n t m).length = n := (stW_ok n1 n8 t0 t1 m).2
    rw [l5] at y2
    have nr : H r = none := k1
    have x5 : ExtT H H5 := fun b o h no => b5 b o (ne_of_none h nr) (x3 b o h no)
    have T5 : TabC a H5 := TabR.but g1 b5 T3
    have TB5 : TabB a H5 := TabR.but g1 b5 TB3
    have nwl : NewT H wl := newT_of x3 nw3
    repeat walk_at "vs"
    refine ⟨wo5, dw5, wl, n, t, 0, ys, wsW n t m, rfl, y2, q5, r5, wsW_lens, n1, n8, by rw [wsW_len]; omega, TB5, fun tp yl H6 ny q6 qy T6 e6 b6 => ?_⟩
    obtain ⟨ps5, hp5⟩ := TB5.is
    have TC6 : TabC a H6 := TabR.keep hp5 (Ne.symm T.nt_best_enemy_of_changer) b6 T5
    repeat walk_at "vs"
    refine r_ixT q6 rfl ?_
    repeat walk_at "vs"
    intro tq H7 n7 q7 e7
    have nyl : wl ≠ yl := fun z => by
      have := ny _ (by rw [← z]; exact q5)
      cases this
    refine hq tq wl yl H7 nwl (fun o ho => ?_) nyl ⟨q7, ⟨ys, e7 _ _ (e6 _ _ q5 rfl), RefsH.tk ((tk_extT e6).tr (tk_ext e7)) r5⟩, e7 _ _ qy⟩ (TabR.ext e7 TC6) (TabR.ext e7 T6) ((x5.tr e6).ext e7)
    cases tn : noTb o with
    | false => rfl
    | true => have := ny _ (x5 _ _ ho tn); rw [tn] at this; cases this
theorem plW_snoc (t : Int) : ∀ (Ls : List (List Int)) (ws : List Int) (b : Int) (L : List Int) (s : Int), Ls.length = ws.length → plW t b (Ls ++ [L]) (ws ++ [s]) = plW t b Ls ws + prc L (lastL b ws) s t
  | [], [], b, L, s, _ => by show prc L b s t + 0 = 0 + prc L b s t; omega
  | [], _ :: _, _, _, _, h => by simp at h
  | _ :: _, [], _, _, _, h => by simp at h
  | c :: cs, x :: xs, b, L, s, h => by
    show prc c b x t + plW t x (cs ++ [L]) (xs ++ [s]) = prc c b x t + plW t x cs xs + prc L (lastL x xs) s t
    rw [plW_snoc t cs xs x L s (by simpa using h)]
    omega
def sp_law_plan : Sp := fun vs H Q _ => ∃ (wl yl : Addr) (ys : List V) (n : Nat) (t : Int) (Ls : List (List Int)) (ws : List Int), vs = [.int (n : Nat), .int t, .ref wl, .ref yl] ∧ H wl = some (.lst ys) ∧ RefsH H ys Ls ∧ H yl = some (.lst (ws.map V.int)) ∧ ws.length = Ls.length ∧ (∀ L ∈ Ls, L.length = n) ∧ (∀ i, i < ws.length → 0 ≤ ws.getD i 0 ∧ ws.getD i 0 < (n : Int)) ∧ 0 ≤ t ∧ t ≤ 1000000000000000000 ∧ ∀ H', Ext H H' → Q (.int (plW t 0 Ls ws)) H'
theorem ok_law_plan (T : Txt K mg a) : FnOk P w K mg base (CXU P w) 2 a.f_law_plan a.d_law_plan ["_law_n", "_law_toll", "_law_wishes", "_law_way"] (sp_law_plan) := by
  refine T.F_law_plan.okU sc_law_plan (fun vs H Q E h => ?_) (fun cdv A outer s H vs Q E hr h => ?_)
  · obtain ⟨wl, yl, ys, n, t, Ls, ws, rfl, hwl, hR, hyl, hl, hL, hw, t0, t1, hq⟩ := h
    rfl
  · obtain ⟨wl, yl, ys, n, t, Ls, ws, rfl, hwl, hR, hyl, hl, hL, hw, t0, t1, hq⟩ := h
    refine ⟨_, (pss_cons (ps_set (i := 4) sc_law_plan.nd rfl (by first | exact Or.inl rfl | exact Or.inr rfl) pe_int)
      (pss_cons (ps_set (i := 5) sc_law_plan.nd rfl (by first | exact Or.inl rfl | exact Or.inr rfl) pe_int)
      (pss_cons (ps_for PassesOwn.never rfl (pi_zip2 rfl T.n_zip (pa_cons (pv 2) (pa_cons (pv 3) pa_nil))) (pg_tup rfl (pgs_cons (pg_name (i := 6) sc_law_plan.nd rfl (by first | exact Or.inl rfl | exact Or.inr rfl)) (pgs_cons (pg_name (i := 7) sc_law_plan.nd rfl (by first | exact Or.inl rfl | exact Or.inr rfl)) pgs_nil))) (pss_cons (ps_if (PW.pt (pw_or (pt_not (ptT (pe_call (ok_law_whole T) (hr.mono (by decide)) (by rfl) T.m_law_whole T.F_law_whole.kp T.b_law_whole .nil passU (pa_cons (pv 7) pa_nil)) (fun _ => rfl))) (pw_or (pt_cmpR op_lt (pv 7) pe_int (nomark _)) (pw_or1 (pt_cmpR op_ge (pv 7) (pv 0) (nomark _)))))) (pss_one (ps_ret (pe_un un_neg pe_int))) pss_nil)
      (pss_cons (ps_set (i := 5) sc_law_plan.nd rfl (by first | exact Or.inl rfl | exact Or.inr rfl) (pe_op oAddV (pe_op oAddV (pv 5) (pe_ix oIx (pv 6) (pv 7) (fun _ _ => rfl))) (pe_op op_mulB (pv 1) (pe_callTy cInt1 (by rfl) T.n_int PyProof.Rows.boot_int (pa_cons (pe_cmpR op_ne (pv 7) (pv 4) (nomark _)) pa_nil)))))
      (pss_one (ps_set (i := 4) sc_law_plan.nd rfl (by first | exact Or.inl rfl | exact Or.inr rfl) (pv 7))))))
      (pss_one (ps_ret (pv 5)))))), ?_⟩
    have ly := hR.length
    repeat walk_at "vs"
    refine ⟨wl, yl, ys, ws.map V.int, false, false, rfl, SqL.of hwl, SqL.of hyl, for_zip2 (xs := ys) (ys := ws.map V.int) (c := false) (d := false) (fun i σ H2 => ∃ (u1 u2 : Option V), σ = [some (.int (n : Nat)), some (.int t), some (.ref wl), some (.ref yl), some (.int (lastL 0 (ws.take i))), some (.int (plW t 0 (Ls.take i) (ws.take i))), u1, u2] ∧ Ext H H2) (by rw [List.length_map]; omega) ⟨none, none, rfl, Ext.rfl'⟩ (fun i σ H2 _ h => by obtain ⟨_, _, _, x⟩ := h; exact ⟨SqL.of (x _ _ hwl), SqL.of (x _ _ hyl)⟩) ?_ ?_⟩
    · rintro i x y σ H2 p hx hy ⟨u1, u2, rfl, x2⟩ np
      obtain ⟨c, rfl, hc⟩ := hR.get i x hx
      obtain ⟨s, es, rfl⟩ := get_int hy
      have hi : i < ws.length := (List.getElem?_eq_some_iff.mp es).1
      have gs : ws.getD i 0 = s := by rw [List.getD_eq_getElem?_getD, es]; rfl
      obtain ⟨s0, s1⟩ := hw i hi
      rw [gs] at s0 s1
      have lL : (Ls.getD i []).length = n := by
        rw [List.getD_eq_getElem?_getD, List.getElem?_eq_getElem (show i < Ls.length by omega)]
        exact hL _ (List.getElem_mem _)
      have et : ws.take (i + 1) = ws.take i ++ [s] := by rw [List.take_add_one, es]; rfl
      have eL : Ls.take (i + 1) = Ls.take i ++ [Ls.getD i []] := by rw [List.take_add_one, List.getD_eq_getElem?_getD, List.getElem?_eq_getElem (show i < Ls.length by omega)]; rfl
      have ep : plW t 0 (Ls.take (i + 1)) (ws.take (i + 1)) = plW t 0 (Ls.take i) (ws.take i) + prc (Ls.getD i []) (lastL 0 (ws.take i)) s t := by rw [et, eL]; exact plW_snoc t _ _ 0 _ s (by rw [List.length_take, List.length_take]; omega)
      have el : lastL 0 (ws.take (i + 1)) = s := by rw [et]; exact lastL_snoc _ _ _
      have hp : upd H2 p (.tup [.ref c, .int s]) p = some (.tup [.ref c, .int s]) := upd_same
      have e3 : Ext H2 (upd H2 p (.tup [.ref c, .int s])) := ext_upd np
      have hc3 := (x2.tr e3) _ _ hc
      generalize upd H2 p (.tup [.ref c, .int s]) = H3 at *
      repeat walk_at "vs"
      refine ⟨.int s, .int, rfl, rfl, ?_⟩
      repeat walk_at "vs"
      refine iteD (fun cc => absurd cc (by omega)) (fun _ => ?_)
      repeat walk_at "vs"
      refine iteD (fun cc => absurd cc (by omega)) (fun _ => ?_)
      repeat walk_at "vs"
      refine r_ixT hc3 (atI_ints s0 (by omega)) ?_
      repeat walk_at "vs"
      by_cases cc : s = lastL 0 (ws.take i)
      · rw [show (!decide (s = lastL 0 (ws.take i))) = false by rw [decide_eq_true cc]; rfl]
        repeat walk_at "vs"
        have ev : plW t 0 (Ls.take i) (ws.take i) + (Ls.getD i []).getD s.toNat 0 + t * (if false = true then 1 else 0) = plW t 0 (Ls.take (i + 1)) (ws.take (i + 1)) := by rw [ep]; unfold prc; rw [if_pos cc]; simp
        refine ⟨some (.ref c), some (.int s), ?_, x2.tr e3⟩
        rw [ev, el]
        rfl
      · rw [show (!decide (s = lastL 0 (ws.take i))) = true by rw [decide_eq_false cc]; rfl]
        repeat walk_at "vs"
        have ev : plW t 0 (Ls.take i) (ws.take i) + (Ls.getD i []).getD s.toNat 0 + t * (if true = true then 1 else 0) = plW t 0 (Ls.take (i + 1)) (ws.take (i + 1)) := by rw [ep]; unfold prc; rw [if_neg cc]; simp; omega
        refine ⟨some (.ref c), some (.int s), ?_, x2.tr e3⟩
        rw [ev, el]
        rfl
    · rintro σ H2 ⟨u1, u2, rfl, x2⟩
      rw [ly, List.take_length, ← hl, List.take_length] at *
      repeat walk_at "vs"
      exact hq H2 x2
theorem first_idx {fs : List Int} {m : Int} (h : m ∈ fs) : ((List.range fs.length).filter fun j => decide (fs.getD j 0 = m)).map (fun (j : Nat) => (j : Int)) ≠ [] ∧ (((List.range fs.length).filter fun j => decide (fs.getD j 0 = m)).map fun (j : Nat) => (j : Int)).getD 0 0 = ((fs.idxOf m : Nat) : Int) := by
  have hi := List.idxOf_lt_length_iff.mpr h
  have e : List.range fs.length = List.range (fs.idxOf m) ++ (List.range (fs.length - fs.idxOf m)).map (· + fs.idxOf m) := by
    refine List.ext_getElem (by simp; omega) fun j h1 h2 => ?_
    rw [List.getElem_range, List.getElem_append]
    split
    · simp
    · simp; simp at *; omega
  have z : (List.range (fs.idxOf m)).filter (fun j => decide (fs.getD j 0 = m)) = [] := List.filter_eq_nil_iff.mpr fun j hj q => by
    have hj := List.mem_range.mp hj
    have q' := of_decide_eq_true q
    rw [List.getD_eq_getElem?_getD, List.getElem?_eq_getElem (by omega), Option.getD_some] at q'
    have := List.not_of_lt_findIdx (p := (· == m)) (xs := fs) (i := j) (by exact hj)
    simp [q'] at this
  have g : fs.getD (fs.idxOf m) 0 = m := by rw [List.getD_eq_getElem?_getD, List.getElem?_eq_getElem hi, Option.getD_some, List.getElem_idxOf]
  obtain ⟨k, hk⟩ : ∃ k, fs.length - fs.idxOf m = k + 1 := ⟨fs.length - fs.idxOf m - 1, by omega⟩
  rw [e, List.filter_append, z, List.nil_append, hk, List.range_succ_eq_map, List.map_cons, List.filter_cons, if_pos (by show decide (fs.getD (0 + fs.idxOf m) 0 = m) = true; rw [Nat.zero_add]; exact decide_eq_true g)]
  exact ⟨by simp, by simp⟩
def sp_law_pay : Sp := fun vs H Q _ => ∃ (wl : Addr) (ys : List V) (n : Nat) (t : Int) (m : Nat), vs = [.int (n : Nat), .int t, .ref wl] ∧ H wl = some (.lst ys) ∧ RefsH H ys (wsW n t m) ∧ 1 ≤ n ∧ n ≤ 8 ∧ 0 ≤ t ∧ t ≤ 1000000000000000000 ∧ m ≤ 1000 ∧ ∀ H', Ext H H' → Q (.int (pdW n t m)) H'
theorem ok_law_pay (T : Txt K mg a) : FnOk P w K mg base (CXU P w) 1 a.f_law_pay a.d_law_pay ["_law_n", "_law_toll", "_law_wishes"] (sp_law_pay) := by
  refine T.F_law_pay.okU sc_law_pay (fun vs H Q E h => ?_) (fun cdv A outer s H vs Q E hr h => ?_)
  · obtain ⟨wl, ys, n, t, m, rfl, hwl, hR, n1, n8, t0, t1, hm, hq⟩ := h
    rfl
  · obtain ⟨wl, ys, n, t, m, rfl, hwl, hR, n1, n8, t0, t1, hm, hq⟩ := h
    refine ⟨_, (pss_cons (ps_set (i := 3) sc_law_pay.nd rfl (by first | exact Or.inl rfl | exact Or.inr rfl) (pe_op oAddV (pe_lst (pa_cons pe_int pa_nil)) (pe_op op_rep (pe_lst (pa_cons (pv 1) pa_nil)) (pe_op op_sub (pv 0) pe_int))))
      (pss_cons (ps_set (i := 4) sc_law_pay.nd rfl (by first | exact Or.inl rfl | exact Or.inr rfl) pe_int)
      (pss_cons (ps_set (i := 5) sc_law_pay.nd rfl (by first | exact Or.inl rfl | exact Or.inr rfl) pe_int)
      (pss_cons (ps_for PassesOwn.never rfl (pi_list (pv 2)) (pg_name (i := 6) sc_law_pay.nd rfl (by first | exact Or.inl rfl | exact Or.inr rfl)) (pss_cons (ps_set (i := 7) sc_law_pay.nd rfl (by first | exact Or.inl rfl | exact Or.inr rfl) (pe_comp (["_law_j"] : List Str) (["_law_known", "_law_wish"] : List Str) [3, 6] rfl ⟨rfl, by decide +kernel, by decide +kernel, by rfl, ⟨⟨rfl, by first | exact Or.inl rfl | exact Or.inr rfl, by first | exact Or.inl rfl | exact Or.inr rfl⟩, ⟨rfl, by first | exact Or.inl rfl | exact Or.inr rfl, by first | exact Or.inl rfl | exact Or.inr rfl⟩, trivial⟩⟩ (pi_range1 rfl T.n_range (pa_cons (pv 0) pa_nil)) (fun _ _ _ _ => ⟨(pg_name (i := 0) (by show ((["_law_j"] : List Str) ++ (["_law_known", "_law_wish"] : List Str)).Nodup; decide +kernel) rfl (by first | exact Or.inl rfl | exact Or.inr rfl)), (show PTs _ [] [] from trivial), (pe_op oAddV (pe_ix oIx (pv 1) (pv 0) (fun _ _ => rfl)) (pe_ix oIx (pv 2) (pv 0) (fun _ _ => rfl)))⟩)))
      (pss_cons (ps_set (i := 8) sc_law_pay.nd rfl (by first | exact Or.inl rfl | exact Or.inr rfl) (pe_callB (cMin1 rfl) (by rfl) T.n_min PyProof.Rows.boot_min (pa_cons (pv 7) pa_nil)))
      (pss_cons (ps_if (pt_cmpR op_gt (pe_ix oIx (pv 7) (pv 4) (fun _ _ => rfl)) (pe_op oAddV (pv 8) (pv 1)) (nomark _)) (pss_cons (ps_set (i := 4) sc_law_pay.nd rfl (by first | exact Or.inl rfl | exact Or.inr rfl) (pe_ix oIx (pe_comp (["_law_j"] : List Str) (["_law_fresh", "_law_least"] : List Str) [7, 8] rfl ⟨rfl, by decide +kernel, by decide +kernel, by rfl, ⟨⟨rfl, by first | exact Or.inl rfl | exact Or.inr rfl, by first | exact Or.inl rfl | exact Or.inr rfl⟩, ⟨rfl, by first | exact Or.inl rfl | exact Or.inr rfl, by first | exact Or.inl rfl | exact Or.inr rfl⟩, trivial⟩⟩ (pi_range1 rfl T.n_range (pa_cons (pv 0) pa_nil)) (fun _ _ _ _ => ⟨(pg_name (i := 0) (by show ((["_law_j"] : List Str) ++ (["_law_fresh", "_law_least"] : List Str)).Nodup; decide +kernel) rfl (by first | exact Or.inl rfl | exact Or.inr rfl)), (show PTs _ [_] [_] from ⟨(pt_cmpR (oEq hr) (pe_ix oIx (pv 1) (pv 0) (fun _ _ => rfl)) (pv 2) (nomark _)), trivial⟩), (pv 0)⟩)) pe_int (fun _ _ => rfl)))
      (pss_one (ps_set (i := 5) sc_law_pay.nd rfl (by first | exact Or.inl rfl | exact Or.inr rfl) (pe_op oAddV (pv 5) (pv 1))))) pss_nil)
      (pss_cons (ps_set (i := 5) sc_law_pay.nd rfl (by first | exact Or.inl rfl | exact Or.inr rfl) (pe_op oAddV (pv 5) (pe_ix oIx (pv 6) (pv 4) (fun _ _ => rfl))))
      (pss_one (ps_set (i := 3) sc_law_pay.nd rfl (by first | exact Or.inl rfl | exact Or.inr rfl) (pe_comp (["_law_one"] : List Str) (["_law_least", "_law_toll"] : List Str) [8, 1] rfl ⟨rfl, by decide +kernel, by decide +kernel, by rfl, ⟨⟨rfl, by first | exact Or.inl rfl | exact Or.inr rfl, by first | exact Or.inl rfl | exact Or.inr rfl⟩, ⟨rfl, by first | exact Or.inl rfl | exact Or.inr rfl, by first | exact Or.inl rfl | exact Or.inr rfl⟩, trivial⟩⟩ (pi_list (pv 7)) (fun _ _ _ _ => ⟨(pg_name (i := 0) (by show ((["_law_one"] : List Str) ++ (["_law_least", "_law_toll"] : List Str)).Nodup; decide +kernel) rfl (by first | exact Or.inl rfl | exact Or.inr rfl)), (show PTs _ [] [] from trivial), (pe_callB (cMin2 rfl) (by rfl) T.n_min PyProof.Rows.boot_min (pa_cons (pv 0) (pa_cons (pe_op oAddV (pv 1) (pv 2)) pa_nil)))⟩)))))))))
      (pss_one (ps_ret (pv 5))))))), ?_⟩
    have ly := hR.length
    rw [wsW_len] at ly
    repeat walk_at "vs"
    intro l1 H1 f1 q1 e1
    repeat walk_at "vs"
    intro l2 H2 f2 q2 e2
    repeat walk_at "vs"
    refine r_rep1 q2 (by omega) (by omega) fun l3 H3 f3 q3 e3 => ?_
    repeat walk_at "vs"
    refine r_catL ((e2.tr e3) _ _ q1) q3 (by simp; omega) fun l4 H4 f4 q4 e4 => ?_
    have x4 := (e1.tr e2).tr (e3.tr e4)
    have q4' : H4 l4 = some (.lst ((nsW n t 0).map V.int)) := by
      rw [q4]
      congr 2
      obtain ⟨k, rfl⟩ : ∃ k, n = k + 1 := ⟨n - 1, by omega⟩
      show [V.int 0] ++ List.replicate ((((k + 1 : Nat) : Int) - 1).toNat) (V.int t) = (fstW (k + 1) t 0).map V.int
      rw [show (((k + 1 : Nat) : Int) - 1).toNat = k by omega]
      rw [fst_rep, List.map_cons, List.map_replicate]
      rfl
    repeat walk_at "vs"
    refine ⟨wl, rfl, ⟨_, SqL.of (x4 _ _ hwl)⟩, for_list (xs := ys) (fun i σ H6 => ∃ (u1 u2 u3 : Option V) (kn : Addr), σ = [some (.int (n : Nat)), some (.int t), some (.ref wl), some (.ref kn), some (.int (haW n t i)), some (.int (pdW n t i)), u1, u2, u3] ∧ Ext H H6 ∧ H6 kn = some (.lst ((nsW n t i).map V.int))) ⟨none, none, none, l4, rfl, x4, q4'⟩ (fun i σ H6 _ h => by obtain ⟨_, _, _, _, _, x, _⟩ := h; exact SqL.of (x _ _ hwl)) ?_ ?_⟩
    · rintro i y σ H6 hy ⟨u1, u2, u3, kn, rfl, x6, q6⟩
      obtain ⟨c, rfl, hc⟩ := hR.get i y hy
      have hi : i < m := by have := (List.getElem?_eq_some_iff.mp hy).1; omega
      rw [wsW_at hi] at hc
      obtain ⟨k3, l3⟩ := stW_ok n1 n8 t0 t1 i
      have hc3 := ch_ok n1 n8 t0 t1 i
      have cl : (wiW n t i).length = n := chW_len _ _
      have fl := frw_len hc3.len
      have fne := frw_ne hc3.len k3.lo
      have hm0 := mn_is fne
      have h0 := k3.h0
      have h1 := k3.h1
      have g := goW_in k3 hc3
      have hc6 := x6 _ _ hc
      repeat walk_at "vs"
      refine ⟨_, rfl, by omega, by omega, fun acc hn _ _ _ _ => comp_mapR V.int (fun (j : Nat) => (frw (nsW n t i) (wiW n t i)).getD j 0) (by omega) hn (fun j H7 Y hj e7 hY => ?_) fun H7 e7 ha => ?_⟩
      · rw [Int.toNat_natCast] at hj
        rw [frw_at hc3.len (by omega)] at hY
        repeat walk_at "vs"
        refine r_ixL (e7 _ _ q6) (atI_ints (by omega) (by omega)) ?_
        repeat walk_at "vs"
        refine r_ixT (e7 _ _ hc6) (atI_ints (by omega) (by omega)) ?_
        repeat walk_at "vs"
        rw [Int.toNat_natCast]
        exact hY _ Ext.rfl'
      · have ha' : H7 acc = some (.lst ((frw (nsW n t i) (wiW n t i)).map V.int)) := by
          rw [ha, Int.toNat_natCast]
          congr 3
          refine ext_getD (by simp [fl, l3]) fun j hj => ?_
          rw [List.length_map, List.length_range] at hj
          exact range_getD hj
        have i1 := atI_ints (ns := frw (nsW n t i) (wiW n t i)) h0 (by omega)
        repeat walk_at "vs"
        refine r_min1 ha' fne ?_
        repeat walk_at "vs"
        refine r_ixL ha' i1 ?_
        repeat walk_at "vs"
        refine iteD (fun cc => ?_) (fun cc => ?_)
        · have eg : haW n t (i + 1) = (((frw (nsW n t i) (wiW n t i)).idxOf (mn (frw (nsW n t i) (wiW n t i))) : Nat) : Int) := by
            show goW _ _ _ _ = _
            unfold goW
            exact if_pos cc
          obtain ⟨fi1, fi2⟩ := first_idx hm0.1
          rw [fl, l3] at fi1 fi2
          have iq := List.idxOf_lt_length_iff.mpr hm0.1
          repeat walk_at "vs"
          refine ⟨_, rfl, by omega, by omega, fun acc2 hn2 _ _ _ _ => comp_range (by omega) hn2 (fun j zs _ => zs = (((List.range j).filter fun j => decide ((frw (nsW n t i) (wiW n t i)).getD j 0 = mn (frw (nsW n t i) (wiW n t i)))).map fun (j : Nat) => (j : Int)).map V.int) rfl (fun _ _ _ _ _ h => h) (fun j zs H' _ h => by rw [h, List.length_map, List.length_map]; exact Nat.le_trans (List.length_filter_le _ _) (by simp)) ?_ ?_⟩
          · rintro j zs H8 hj e8 rfl Y N hY hN
            rw [Int.toNat_natCast] at hj
            repeat walk_at "vs"
            refine r_ixL (e8 _ _ ha') (atI_ints (by omega) (by omega)) ?_
            rw [show ((0 : Int) + (j : Nat)).toNat = j by omega]
            repeat walk_at "vs"
            refine iteD (fun c2 => ?_) (fun c2 => ?_)
            · repeat walk_at "vs"
              refine hY _ _ Ext.rfl' ?_
              rw [List.range_succ, List.filter_append, List.filter_cons, if_pos (decide_eq_true c2), List.map_append, List.map_append]
              simp
            · repeat walk_at "vs"
              refine hN _ Ext.rfl' ?_
              rw [List.range_succ, List.filter_append, List.filter_cons, if_neg (by rw [decide_eq_false c2]; decide)]
              simp
          · rintro zs H8 e8 ha2 rfl
            rw [Int.toNat_natCast] at ha2
            repeat walk_at "vs"
            refine r_ixL ha2 (atI_ints (by omega) (by have := List.length_pos_iff.mpr fi1; omega)) ?_
            rw [show (0 : Int).toNat = 0 from rfl, fi2, ← eg]
            repeat walk_at "vs"
            refine r_ixT ((e7.tr e8) _ _ hc6) (atI_ints g.1 (by have := g.2; rw [l3] at this; rw [cl]; exact this)) ?_
            have ep : pdW n t (i + 1) = pdW n t i + t + (wiW n t i).getD (haW n t (i + 1)).toNat 0 := by
              show pdW n t i + pyW n t i = _
              unfold pyW prc
              rw [if_neg (fun z => by
                have e2 : ((frw (nsW n t i) (wiW n t i)).idxOf (mn (frw (nsW n t i) (wiW n t i)))) = (haW n t i).toNat := by omega
                rw [← e2, List.getD_eq_getElem?_getD, List.getElem?_eq_getElem iq, Option.getD_some, List.getElem_idxOf] at cc
                omega)]
              omega
            repeat walk_at "vs"
            refine ⟨acc, rfl, ⟨_, SqL.of (e8 _ _ ha')⟩, fun acc3 hn3 _ _ _ _ => comp_mapL V.int V.int (fun x => min x (mn (frw (nsW n t i) (wiW n t i)) + t)) (SqL.of (e8 _ _ ha')) (by omega) hn3 (fun j x H9 Y hx e9 hY => ?_) fun H9 e9 ha3 => ?_⟩
            · repeat walk_at "vs"
              exact hY _ Ext.rfl'
            · repeat walk_at "vs"
              exact ⟨_, _, _, acc3, by rw [ep]; rfl, x6.tr (e7.tr (e8.tr e9)), ha3⟩
        · have eg : haW n t (i + 1) = haW n t i := by
            show goW _ _ _ _ = _
            unfold goW
            exact if_neg cc
          repeat walk_at "vs"
          refine r_ixT (e7 _ _ hc6) (atI_ints h0 (by rw [cl]; omega)) ?_
          have ep : pdW n t (i + 1) = pdW n t i + (wiW n t i).getD (haW n t i).toNat 0 := by
            show pdW n t i + pyW n t i = _
            unfold pyW prc
            rw [eg, if_pos rfl]
          repeat walk_at "vs"
          refine ⟨acc, rfl, ⟨_, SqL.of ha'⟩, fun acc3 hn3 _ _ _ _ => comp_mapL V.int V.int (fun x => min x (mn (frw (nsW n t i) (wiW n t i)) + t)) (SqL.of ha') (by omega) hn3 (fun j x H9 Y hx e9 hY => ?_) fun H9 e9 ha3 => ?_⟩
          · repeat walk_at "vs"
            exact hY _ Ext.rfl'
          · repeat walk_at "vs"
            exact ⟨_, _, _, acc3, by rw [ep, eg]; rfl, x6.tr (e7.tr e9), ha3⟩
    · rintro σ H6 ⟨u1, u2, u3, kn, rfl, x6, q6⟩
      rw [ly] at *
      repeat walk_at "vs"
      exact hq H6 x6
def sp_law_is_wish : Sp := fun vs H Q _ => ∃ (p : Addr) (L : List Int), vs = [.ref p, .int L.length] ∧ H p = some (.tup (L.map V.int)) ∧ L.length ≤ 8 ∧ (∀ c ∈ L, 0 ≤ c ∧ c ≤ 1000000000000000000) ∧ ∀ H', Ext H H' → Q (.bl true) H'
theorem ok_law_is_wish (T : Txt K mg a) : FnOk P w K mg base (CXU P w) 2 a.f_law_is_wish a.d_law_is_wish ["_law_wish", "_law_many_here"] (sp_law_is_wish) := by
  refine T.F_law_is_wish.okU sc_law_is_wish (fun vs H Q E h => ?_) (fun cdv A outer s H vs Q E hr h => ?_)
  · obtain ⟨p, L, rfl, hp, h8, ham, hq⟩ := h
    rfl
  · obtain ⟨p, L, rfl, hp, h8, ham, hq⟩ := h
    refine ⟨_, (pss_cons (ps_if (PW.pt (pw_or (pt_not (ptT (pe_callB cIsin (by rfl) T.n_isinstance PyProof.Rows.boot_isinstance (pa_cons (pv 0) (pa_cons (pe_bltn (v := V.ty "tuple") (by rfl) T.n_tuple PyProof.Rows.boot_tuple rfl) pa_nil))) (fun _ => rfl))) (pw_or1 (pt_cmpR (oNe hr) (pe_callB cLen (by rfl) T.n_len PySem.boot_len (pa_cons (pv 0) pa_nil)) (pv 1) (nomark _))))) (pss_one (ps_ret pe_bl)) pss_nil)
      (pss_one (ps_ret (pe_cmpR (oEq hr) (pe_comp (["_law_charge"] : List Str) ([] : List Str) [] rfl ⟨rfl, by decide +kernel, by decide +kernel, by rfl, trivial⟩ (pi_tup (pv 0)) (fun _ _ _ _ => ⟨(pg_name (i := 0) (by show ((["_law_charge"] : List Str) ++ ([] : List Str)).Nodup; decide +kernel) rfl (by first | exact Or.inl rfl | exact Or.inr rfl)), (show PTs _ [_] [_] from ⟨(PW.pt (pw_or (pt_not (ptT (pe_call (ok_law_whole T) (hr.mono (by decide)) (by rfl) T.m_law_whole T.F_law_whole.kp T.b_law_whole .nil passU (pa_cons (pv 0) pa_nil)) (fun _ => rfl))) (pw_or (pt_cmpR op_lt (pv 0) pe_int (nomark _)) (pw_or1 (pt_cmpR op_gt (pv 0) (pe_op op_pow pe_int pe_int) (nomark _)))))), trivial⟩), (pv 0)⟩)) (pe_lst pa_nil) (nomark _))))), ?_⟩
    repeat walk_at "vs"
    refine r_isT (HasK.t hp) ?_
    repeat walk_at "vs"
    refine r_lenT hp ?_
    rw [List.length_map]
    repeat walk_at "vs"
    refine iteN (fun q => (q rfl).elim) (fun _ => ?_)
    repeat walk_at "vs"
    refine ⟨p, rfl, ⟨_, SqT.of hp⟩, fun acc hn _ _ _ _ => comp_tup (SqT.of hp) (by rw [List.length_map]; omega) hn (fun j ys _ => ys = []) rfl (fun _ _ _ _ _ h => h) (fun j ys H' _ h => by rw [h]; exact Nat.zero_le _) ?_ ?_⟩
    · rintro j y ys H2 hy e rfl Y N hY hN
      obtain ⟨y, ey, rfl⟩ := get_int hy
      have hm := ham y (List.mem_of_getElem? ey)
      repeat walk_at "vs"
      refine ⟨.int y, .int, rfl, rfl, ?_⟩
      repeat walk_at "vs"
      refine iteD (fun c => absurd c (by omega)) (fun _ => ?_)
      repeat walk_at "vs"
      refine iteD (fun c => absurd c (by omega)) (fun _ => ?_)
      repeat walk_at "vs"
      exact hN _ Ext.rfl' rfl
    · rintro ys H2 e2 ha rfl
      repeat walk_at "vs"
      intro l3 H3 n3 q3 e3
      repeat walk_at "vs"
      refine r_eqD (Rep.lstI (e3 _ _ ha) RepL.nil) (Rep.lstI q3 RepL.nil) rfl rfl (by decide) ?_
      rw [show eqD (.lst []) (.lst []) = true from rfl]
      exact hq H3 (e2.tr e3)
theorem EnW.ext {H H' : Hp} {tp wl yl : Addr} {n : Nat} {t : Int} {m : Nat} (e : Ext H H') (h : EnW H tp wl yl n t m) : EnW H' tp wl yl n t m := by
  obtain ⟨ys, h1, h2⟩ := h.ww
  exact ⟨e _ _ h.tt, ⟨ys, e _ _ h1, h2.mono e⟩, e _ _ h.yy⟩
theorem getD_nn {L : List Int} (h : ∀ c ∈ L, 0 ≤ c ∧ c ≤ 1000000000000000000) (i : Nat) : 0 ≤ L.getD i 0 := by
  by_cases hi : i < L.length
  · exact (h _ (mem_getD hi)).1
  · rw [List.getD_eq_getElem?_getD, List.getElem?_eq_none (by omega)]
    exact Int.le_refl _
theorem plW_nn {t : Int} (t0 : 0 ≤ t) : ∀ (Ls : List (List Int)) (ws : List Int) (b : Int), (∀ L ∈ Ls, ∀ c ∈ L, 0 ≤ c ∧ c ≤ 1000000000000000000) → 0 ≤ plW t b Ls ws
  | [], _, _, _ => Int.le_refl _
  | _ :: _, [], _, _ => Int.le_refl _
  | c :: cs, s :: ss, b, h => by
    have h1 := plW_nn t0 cs ss s fun L hL => h L (List.mem_cons_of_mem _ hL)
    have h2 := getD_nn (h c List.mem_cons_self) s.toNat
    show 0 ≤ prc c b s t + plW t s cs ss
    unfold prc
    split <;> omega
theorem wsW_am {n : Nat} {t : Int} {m : Nat} : ∀ L ∈ wsW n t m, ∀ c ∈ L, 0 ≤ c ∧ c ≤ 1000000000000000000 := fun L hL => by
  unfold wsW at hL
  obtain ⟨i, _, rfl⟩ := List.mem_map.mp hL
  exact chW_am
theorem enW_way {n : Nat} {t : Int} (n1 : 1 ≤ n) (m : Nat) : WayR 0 ((wsW n t m).map (mvW t)) (wyI 0 ((wsW n t m).map (mvW t))) (beI 0 ((wsW n t m).map (mvW t))) ∧ (allR [((0 : Int), (0 : Int), (none : Option Int))] ((wsW n t m).map (mvW t))).getD ((wsW n t m).map (mvW t)).length [] ≠ [] := by
  have hne := allW_ne (t := t) (st := 0) n1 (wsW_lens (n := n) (t := t) (m := m)) m (by rw [wsW_len]; exact Nat.le_refl _)
  have e : ((wsW n t m).map (mvW t)).length = m := by rw [List.length_map, wsW_len]
  have hne' : (allR [((0 : Int), (0 : Int), (none : Option Int))] ((wsW n t m).map (mvW t))).getD ((wsW n t m).map (mvW t)).length [] ≠ [] := by rw [e]; exact hne
  exact ⟨(best_way hne').1, hne'⟩
def sp_law_good : Sp := fun vs H Q _ => ∃ (tp wl yl : Addr) (n : Nat) (t : Int) (m : Nat), vs = [.ref tp, .int (n : Nat), .int t, .int (m : Nat)] ∧ EnW H tp wl yl n t m ∧ 1 ≤ n ∧ n ≤ 8 ∧ 1 ≤ t ∧ t ≤ 1000000000000000000 ∧ m ≤ 1000 ∧ ∀ H', Ext H H' → Q (.bl true) H'
theorem ok_law_good (T : Txt K mg a) : FnOk P w K mg base (CXU P w) 13 a.f_law_good a.d_law_good ["_law_found", "_law_n", "_law_toll", "_law_many_here"] (sp_law_good) := by
  refine T.F_law_good.okU sc_law_good (fun vs H Q E h => ?_) (fun cdv A outer s H vs Q E hr h => ?_)
  · obtain ⟨tp, wl, yl, n, t, m, rfl, hE, n1, n8, t1, t2, hm, hq⟩ := h
    rfl
  · obtain ⟨tp, wl, yl, n, t, m, rfl, hE, n1, n8, t1, t2, hm, hq⟩ := h
    refine ⟨_, (pss_cons (ps_if (PW.pt (pw_or (pt_not (ptT (pe_callB cIsin (by rfl) T.n_isinstance PyProof.Rows.boot_isinstance (pa_cons (pv 0) (pa_cons (pe_bltn (v := V.ty "tuple") (by rfl) T.n_tuple PyProof.Rows.boot_tuple rfl) pa_nil))) (fun _ => rfl))) (pw_or (pt_cmpR op_ne (pe_callB cLen (by rfl) T.n_len PySem.boot_len (pa_cons (pv 0) pa_nil)) pe_int (nomark _)) (pw_or1 (pt_not (ptT (pe_call (ok_law_same T) (hr.mono (by decide)) (by rfl) T.m_law_same T.F_law_same.kp T.b_law_same .nil passU (pa_cons (pe_ix oIx (pv 0) pe_int (fun _ _ => rfl)) (pa_cons pe_int pa_nil))) (fun _ => rfl))))))) (pss_one (ps_ret pe_bl)) pss_nil)
      (pss_cons (ps_if (PW.pt (pw_or (pt_not (ptT (pe_callB cIsin (by rfl) T.n_isinstance PyProof.Rows.boot_isinstance (pa_cons (pe_ix oIx (pv 0) pe_int (fun _ _ => rfl)) (pa_cons (pe_bltn (v := V.ty "list") (by rfl) T.n_list PyProof.Rows.boot_list rfl) pa_nil))) (fun _ => rfl))) (pw_or1 (pt_not (ptT (pe_callB cIsin (by rfl) T.n_isinstance PyProof.Rows.boot_isinstance (pa_cons (pe_ix oIx (pv 0) pe_int (fun _ _ => rfl)) (pa_cons (pe_bltn (v := V.ty "list") (by rfl) T.n_list PyProof.Rows.boot_list rfl) pa_nil))) (fun _ => rfl)))))) (pss_one (ps_ret pe_bl)) pss_nil)
      (pss_cons (ps_if (PW.pt (pw_or (pt_cmpR op_ne (pe_callB cLen (by rfl) T.n_len PySem.boot_len (pa_cons (pe_ix oIx (pv 0) pe_int (fun _ _ => rfl)) pa_nil)) (pv 3) (nomark _)) (pw_or1 (pt_cmpR op_ne (pe_callB cLen (by rfl) T.n_len PySem.boot_len (pa_cons (pe_ix oIx (pv 0) pe_int (fun _ _ => rfl)) pa_nil)) (pv 3) (nomark _))))) (pss_one (ps_ret pe_bl)) pss_nil)
      (pss_cons (ps_for PassesOwn.never rfl (pi_list (pe_ix oIx (pv 0) pe_int (fun _ _ => rfl))) (pg_name (i := 4) sc_law_good.nd rfl (by first | exact Or.inl rfl | exact Or.inr rfl)) (pss_one (ps_if (pt_not (ptT (pe_call (ok_law_is_wish T) (hr.mono (by decide)) (by rfl) T.m_law_is_wish T.F_law_is_wish.kp T.b_law_is_wish .nil passU (pa_cons (pv 4) (pa_cons (pv 1) pa_nil))) (fun _ => rfl))) (pss_one (ps_ret pe_bl)) pss_nil)))
      (pss_cons (ps_set (i := 5) sc_law_good.nd rfl (by first | exact Or.inl rfl | exact Or.inr rfl) (pe_call (ok_law_pay T) (hr.mono (by decide)) (by rfl) T.m_law_pay T.F_law_pay.kp T.b_law_pay .nil passU (pa_cons (pv 1) (pa_cons (pv 2) (pa_cons (pe_ix oIx (pv 0) pe_int (fun _ _ => rfl)) pa_nil)))))
      (pss_cons (ps_set (i := 6) sc_law_good.nd rfl (by first | exact Or.inl rfl | exact Or.inr rfl) (pe_call (ok_law_plan T) (hr.mono (by decide)) (by rfl) T.m_law_plan T.F_law_plan.kp T.b_law_plan .nil passU (pa_cons (pv 1) (pa_cons (pv 2) (pa_cons (pe_ix oIx (pv 0) pe_int (fun _ _ => rfl)) (pa_cons (pe_ix oIx (pv 0) pe_int (fun _ _ => rfl)) pa_nil))))))
      (pss_one (ps_ret (pe_and (pe_cmpR op_ge (pv 6) pe_int (nomark _)) (pe_and (pe_cmpR op_ge (pv 5) (pv 3) (nomark _)) (pe_one (pe_cmpR op_le (pe_op op_mulB (pe_op op_sub (pe_op op_mulB pe_int (pv 1)) pe_int) (pv 6)) (pe_op oAddV (pv 5) (pe_op op_mulB (pe_op op_mulB pe_int (pe_op op_sub (pv 1) pe_int)) (pv 2))) (nomark _))))))))))))), ?_⟩
    obtain ⟨hway, hne⟩ := enW_way (t := t) n1 m
    have lwy := way_len hway
    rw [List.length_map, wsW_len] at lwy
    obtain ⟨hpl, hin⟩ := way_plW hway
    have bound := enemy_ways n1 n8 t1 t2 m hne
    rw [← hpl] at bound
    have pm := (paid_all n1 n8 t1 t2 m).1
    have pn := plW_nn (t := t) (by omega) (wsW n t m) (wyI 0 ((wsW n t m).map (mvW t))) 0 wsW_am
    obtain ⟨ys, hw, hR⟩ := hE.ww
    have hy := hE.yy
    have ht := hE.tt
    have ly := hR.length
    rw [wsW_len] at ly
    generalize hwy : wyI 0 ((wsW n t m).map (mvW t)) = wy at *
    generalize hplv : plW t 0 (wsW n t m) wy = plv at *
    repeat walk_at "vs"
    refine r_isT (HasK.t ht) ?_
    repeat walk_at "vs"
    refine r_lenT ht ?_
    repeat walk_at "vs"
    refine r_ixT ht rfl ?_
    repeat walk_at "vs"
    refine same_yes (d := .int 0) .intI .intI rfl rfl fun H1 e1 => ?_
    have ht1 := e1 _ _ ht
    have hw1 := e1 _ _ hw
    have hy1 := e1 _ _ hy
    repeat walk_at "vs"
    refine r_ixT ht1 rfl ?_
    repeat walk_at "vs"
    refine r_isL (HasK.l hw1) ?_
    repeat walk_at "vs"
    refine r_ixT ht1 rfl ?_
    repeat walk_at "vs"
    refine r_isL (HasK.l hy1) ?_
    repeat walk_at "vs"
    refine r_ixT ht1 rfl ?_
    repeat walk_at "vs"
    refine r_lenL hw1 ?_
    rw [ly]
    repeat walk_at "vs"
    refine iteN (fun z => absurd rfl z) (fun _ => ?_)
    repeat walk_at "vs"
    refine r_ixT ht1 rfl ?_
    repeat walk_at "vs"
    refine r_lenL hy1 ?_
    rw [List.length_map, lwy]
    repeat walk_at "vs"
    refine iteN (fun z => absurd rfl z) (fun _ => ?_)
    repeat walk_at "vs"
    refine r_ixT ht1 rfl ?_
    repeat walk_at "vs"
    refine ⟨wl, rfl, ⟨_, SqL.of hw1⟩, for_list (xs := ys) (fun i σ H3 => (∃ (u1 : Option V), σ = [some (.ref tp), some (.int (n : Nat)), some (.int t), some (.int (m : Nat)), u1, none, none]) ∧ Ext H1 H3) ⟨⟨none, rfl⟩, Ext.rfl'⟩ (fun i σ H3 _ ⟨_, x⟩ => SqL.of (x _ _ hw1)) ?_ ?_⟩
    · rintro i y σ H3 hyi ⟨⟨u1, rfl⟩, x3⟩
      obtain ⟨c, rfl, hc⟩ := hR.get i y hyi
      have hi : i < m := by have := (List.getElem?_eq_some_iff.mp hyi).1; omega
      rw [wsW_at hi] at hc
      have cl : (wiW n t i).length = n := chW_len _ _
      repeat walk_at "vs"
      refine ⟨c, wiW n t i, by rw [cl]; rfl, (e1.tr x3) _ _ hc, by omega, chW_am, fun H4 e4 => ?_⟩
      repeat walk_at "vs"
      exact ⟨⟨_, rfl⟩, x3.tr e4⟩
    · rintro σ H3 ⟨⟨u1, rfl⟩, x3⟩
      have x13 := e1.tr x3
      repeat walk_at "vs"
      refine r_ixT (x13 _ _ ht) rfl ?_
      repeat walk_at "vs"
      refine ⟨wl, ys, n, t, m, rfl, x13 _ _ hw, hR.mono x13, n1, n8, by omega, t2, hm, fun H4 e4 => ?_⟩
      have x14 := x13.tr e4
      repeat walk_at "vs"
      refine r_ixT (x14 _ _ ht) rfl ?_
      repeat walk_at "vs"
      refine r_ixT (x14 _ _ ht) rfl ?_
      repeat walk_at "vs"
      refine ⟨wl, yl, ys, n, t, wsW n t m, wy, rfl, x14 _ _ hw, hR.mono x14, x14 _ _ hy, by rw [wsW_len]; exact lwy, wsW_lens, fun i hi => ?_, by omega, t2, fun H5 e5 => ?_⟩
      · have := hin i hi
        rw [wsW_at (by omega), show (wiW n t i).length = n from chW_len _ _] at this
        exact this
      rw [hplv]
      repeat walk_at "vs"
      refine iteD (fun _ => ?_) (fun z => absurd z (fun z => z (by omega)))
      repeat walk_at "vs"
      refine iteD (fun _ => ?_) (fun z => absurd z (fun z => z (by omega)))
      repeat walk_at "vs"
      rw [decide_eq_true (by exact bound)]
      exact hq H5 (x14.tr e5)
def sp_law_mixed : Sp := fun vs H Q _ => ∃ c k, vs = [.int c, .int k] ∧ 0 ≤ k ∧ k ≤ 1000000 ∧ ∀ n, 0 ≤ n → n < 2147483629 → Q (.int n) H
theorem ok_law_mixed (T : Txt K mg a) : FnOk P w K mg base (CXU P w) 1 a.f_law_mixed a.d_law_mixed ["_law_cell_here", "_law_k"] (sp_law_mixed) := by
  refine T.F_law_mixed.okU sc_law_mixed (fun vs H Q E h => ?_) (fun cdv A outer s H vs Q E hr h => ?_)
  · obtain ⟨c, k, rfl, h0, h1, hq⟩ := h
    rfl
  · obtain ⟨c, k, rfl, h0, h1, hq⟩ := h
    refine ⟨_, (pss_cons (ps_set (i := 2) sc_law_mixed.nd rfl (by first | exact Or.inl rfl | exact Or.inr rfl) (pe_op op_mod (pe_op oAddV (pe_op oAddV (pe_op op_mulB (pe_op op_mod (pv 0) pe_int) pe_int) (pe_op op_mulB (pe_op op_mulB pe_int (pv 1)) (pv 1))) pe_int) pe_int))
      (pss_one (ps_ret (pe_op op_mod (pe_op op_mulB (pv 2) (pv 2)) pe_int)))), ?_⟩
    repeat walk_at "vs"
    exact hq _ (by omega) (by omega)
def sp_law_many : Sp := fun vs H Q _ => ∃ c, vs = [.int c] ∧ ∀ m : Nat, 1 ≤ m → m ≤ 100 → Q (.int (m : Nat)) H
theorem ok_law_many (T : Txt K mg a) : FnOk P w K mg base (CXU P w) 2 a.f_law_many a.d_law_many ["_law_cell_here"] (sp_law_many) := by
  refine T.F_law_many.okU sc_law_many (fun vs H Q E h => ?_) (fun cdv A outer s H vs Q E hr h => ?_)
  · obtain ⟨c, rfl, hq⟩ := h
    rfl
  · obtain ⟨c, rfl, hq⟩ := h
    refine ⟨_, (pss_cons (ps_set (i := 1) sc_law_many.nd rfl (by first | exact Or.inl rfl | exact Or.inr rfl) (pe_call (ok_law_mixed T) (hr.mono (by decide)) (by rfl) T.m_law_mixed T.F_law_mixed.kp T.b_law_mixed .nil passU (pa_cons (pv 0) (pa_cons pe_int pa_nil))))
      (pss_cons (ps_if (pt_cmpR (oEq hr) (pe_op op_mod (pv 1) pe_int) pe_int (nomark _)) (pss_one (ps_ret (pe_op oAddV pe_int (pe_op op_mod (pe_op op_fdivB (pv 1) pe_int) pe_int)))) pss_nil)
      (pss_one (ps_ret (pe_op oAddV pe_int (pe_op op_mod (pe_op op_fdivB (pv 1) pe_int) pe_int)))))), ?_⟩
    repeat walk_at "vs"
    refine ⟨c, 70, rfl, by decide, by decide, fun n n0 n1 => ?_⟩
    repeat walk_at "vs"
    refine iteD (fun h => ?_) (fun h => ?_)
    · repeat walk_at "vs"
      obtain ⟨m, em, m1, m2⟩ : ∃ m : Nat, 1 + n / 4 % 100 = (m : Nat) ∧ 1 ≤ m ∧ m ≤ 100 := ⟨(1 + n / 4 % 100).toNat, by omega, by omega, by omega⟩
      rw [em]
      exact hq m m1 m2
    · repeat walk_at "vs"
      obtain ⟨m, em, m1, m2⟩ : ∃ m : Nat, 1 + n / 4 % 24 = (m : Nat) ∧ 1 ≤ m ∧ m ≤ 100 := ⟨(1 + n / 4 % 24).toNat, by omega, by omega, by omega⟩
      rw [em]
      exact hq m m1 m2
def sp_law_cell (K : PySem.W.Frag) : Sp := fun vs H Q _ => ∃ (p : Addr) (ns : List Int) (k : Int), vs = [.ref p, .int k] ∧ SqL K H p (ns.map V.int) ∧ 0 ≤ k ∧ (∀ z ∈ ns, ib z ≤ 1048576) ∧ ∀ c, ib c ≤ 1048576 → Q (.int c) H
theorem ok_law_cell (T : Txt K mg a) : FnOk P w K mg base (CXU P w) 1 a.f_law_cell a.d_law_cell ["_law_script", "_law_k"] (sp_law_cell K) := by
  refine T.F_law_cell.okU sc_law_cell (fun vs H Q E h => ?_) (fun cdv A outer s H vs Q E hr h => ?_)
  · obtain ⟨p, ns, k, rfl, hS, hk, hb, hq⟩ := h
    rfl
  · obtain ⟨p, ns, k, rfl, hS, hk, hb, hq⟩ := h
    refine ⟨_, (pss_cons (ps_if (pt_cmpR op_lt (pv 1) (pe_callB cLen (by rfl) T.n_len PySem.boot_len (pa_cons (pv 0) pa_nil)) (nomark _)) (pss_one (ps_ret (pe_ix oIx (pv 0) (pv 1) (fun _ _ => rfl)))) pss_nil)
      (pss_one (ps_ret pe_int))), ?_⟩
    repeat walk_at "vs"
    refine r_lenS hS ?_
    repeat walk_at "vs"
    rw [List.length_map]
    refine iteD (fun h => ?_) (fun h => ?_)
    · repeat walk_at "vs"
      have hl : k.toNat < ns.length := by omega
      refine r_ixS hS (v := .int ns[k.toNat]) (atI_int hk (by rw [List.getElem?_map, List.getElem?_eq_getElem hl]; rfl)) ?_
      exact hq _ (hb _ (List.getElem_mem hl))
    · repeat walk_at "vs"
      exact hq 0 (by decide)
def dTW (L : List Int) : D := .tup (L.map D.int)
def toldW (Ls : List (List Int)) (ws : List Int) : D := .tup [.int 0, .lst (Ls.map dTW), .lst (ws.map D.int)]
theorem refsW_rep {H : Hp} {vs : List V} {Ls : List (List Int)} (r : RefsH H vs Ls) : RepL H (Ls.map dTW) vs := by
  induction r with
  | nil => exact RepL.nil
  | cons c _ ih => exact RepL.cons (Rep.tupInts c) ih
theorem toldW_rep {H : Hp} {tp wl yl : Addr} {ws : List Int} {xs : List V} {Ls : List (List Int)} (h1 : H tp = some (.tup [.int 0, .ref wl, .ref yl])) (h2 : H wl = some (.lst xs)) (h3 : RefsH H xs Ls) (h4 : H yl = some (.lst (ws.map V.int))) : Rep H (toldW Ls ws) (.ref tp) :=
  Rep.tupI h1 (.cons .intI (.cons (Rep.lstI h2 (refsW_rep h3)) (.cons (Rep.lstInts h4) .nil)))
theorem fineTW : ∀ ts : List (List Int), D.fineL (ts.map dTW) = true
  | [] => rfl
  | t :: ts => by
    show ((D.tup (t.map D.int)).fine && D.fineL (ts.map dTW)) = true
    rw [fineTW ts, Bool.and_true]
    exact fineL_ints t
theorem deplTW : ∀ ts : List (List Int), D.depthL (ts.map dTW) ≤ 1
  | [] => by decide
  | t :: ts => by
    have := deplTW ts
    show max (D.depthL (t.map D.int) + 1) (D.depthL (ts.map dTW)) ≤ 1
    rw [depthL_ints]
    omega
theorem toldW_fine (ws : List Int) (Ls : List (List Int)) : (toldW Ls ws).fine = true := by
  show (true && (D.fineL (Ls.map dTW) && (D.fineL (ws.map D.int) && true))) = true
  rw [fineL_ints, fineTW]
  rfl
theorem toldW_dep (ws : List Int) (Ls : List (List Int)) : Nat.ble (toldW Ls ws).depth 5 = true := by
  have := deplTW Ls
  refine Nat.ble_eq.mpr ?_
  show max 0 (max (D.depthL (Ls.map dTW) + 1) (max (D.depthL (ws.map D.int) + 1) 0)) + 1 ≤ 5
  rw [depthL_ints]
  omega
theorem EnW.extT {H H' : Hp} {tp wl yl : Addr} {n : Nat} {t : Int} {m : Nat} (e : ExtT H H') (h : EnW H tp wl yl n t m) : EnW H' tp wl yl n t m := by
  obtain ⟨ys, h1, h2⟩ := h.ww
  exact ⟨e _ _ h.tt rfl, ⟨ys, e _ _ h1 rfl, RefsH.tk (tk_extT e) h2⟩, e _ _ h.yy rfl⟩
def sp_law (K : PySem.W.Frag) (a : Adr) : Sp := fun vs H Q _ => ∃ (p : Addr) (ns : List Int), vs = [.ref p] ∧ SqL K H p (ns.map V.int) ∧ ns.length ≤ 63 ∧ (∀ z ∈ ns, ib z ≤ 1048576) ∧ H a.tb_best = some (.tbl #[]) ∧ H a.tb_enemy_of_changer = some (.tbl #[]) ∧ ∀ H', Q (.bl true) H'
theorem ok_law (T : Txt K mg a) : FnOk P w K mg base (CXU P w) 14 a.f_law a.d_law ["_law_script"] (sp_law K a) := by
  refine T.F_law.okU sc_law (fun vs H Q E h => ?_) (fun cdv A outer s H vs Q E hr h => ?_)
  · obtain ⟨p, cs, rfl, hS, hl, hb, hT1, hT2, hq⟩ := h
    rfl
  · obtain ⟨p, cs, rfl, hS, hl, hb, hT1, hT2, hq⟩ := h
    have zc_Changer := T.cl_Changer
    have zn_Changer_reckoned := T.na_Changer_reckoned
    have zn_Changer_world := T.na_Changer_world
    have zn_Changer_standing := T.na_Changer_standing
    have zn_Changer_spent := T.na_Changer_spent
    have zc_Ways := T.cl_Ways
    have zn_Ways_many := T.na_Ways_many
    have zn_Ways_toll := T.na_Ways_toll
    refine ⟨_, (pss_cons (ps_set (i := 1) sc_law.nd rfl (by first | exact Or.inl rfl | exact Or.inr rfl) (pe_op oAddV pe_int (pe_op op_mod (pe_call (ok_law_mixed T) (hr.mono (by decide)) (by rfl) T.m_law_mixed T.F_law_mixed.kp T.b_law_mixed .nil passU (pa_cons (pe_call (ok_law_cell T) (hr.mono (by decide)) (by rfl) T.m_law_cell T.F_law_cell.kp T.b_law_cell .nil passU (pa_cons (pv 0) (pa_cons pe_int pa_nil))) (pa_cons pe_int pa_nil))) pe_int)))
      (pss_cons (ps_set (i := 2) sc_law.nd rfl (by first | exact Or.inl rfl | exact Or.inr rfl) (pe_call (ok_law_mixed T) (hr.mono (by decide)) (by rfl) T.m_law_mixed T.F_law_mixed.kp T.b_law_mixed .nil passU (pa_cons (pe_call (ok_law_cell T) (hr.mono (by decide)) (by rfl) T.m_law_cell T.F_law_cell.kp T.b_law_cell .nil passU (pa_cons (pv 0) (pa_cons pe_int pa_nil))) (pa_cons pe_int pa_nil))))
      (pss_cons (ps_set (i := 3) sc_law.nd rfl (by first | exact Or.inl rfl | exact Or.inr rfl) (pe_op oAddV pe_int (pe_op op_mod (pe_op op_fdivB (pv 2) pe_int) pe_int)))
      (pss_cons (ps_if (pt_cmpR (oEq hr) (pe_op op_mod (pv 2) pe_int) pe_int (nomark _)) (pss_one (ps_set (i := 3) sc_law.nd rfl (by first | exact Or.inl rfl | exact Or.inr rfl) (pe_op oAddV pe_int (pe_op op_mod (pe_op op_fdivB (pv 2) pe_int) pe_int)))) pss_nil)
      (pss_cons (ps_if (pt_cmpR (oEq hr) (pe_op op_mod (pv 2) pe_int) pe_int (nomark _)) (pss_one (ps_set (i := 3) sc_law.nd rfl (by first | exact Or.inl rfl | exact Or.inr rfl) (pe_op oAddV pe_int (pe_op op_mod (pe_op op_mulB (pe_op oAddV (pe_call (ok_law_cell T) (hr.mono (by decide)) (by rfl) T.m_law_cell T.F_law_cell.kp T.b_law_cell .nil passU (pa_cons (pv 0) (pa_cons pe_int pa_nil))) (pv 2)) (pe_op op_pow pe_int pe_int)) (pe_op op_pow pe_int pe_int))))) pss_nil)
      (pss_cons (ps_set (i := 4) sc_law.nd rfl (by first | exact Or.inl rfl | exact Or.inr rfl) (pe_call (ok_law_many T) (hr.mono (by decide)) (by rfl) T.m_law_many T.F_law_many.kp T.b_law_many .nil passU (pa_cons (pe_call (ok_law_cell T) (hr.mono (by decide)) (by rfl) T.m_law_cell T.F_law_cell.kp T.b_law_cell .nil passU (pa_cons (pv 0) (pa_cons pe_int pa_nil))) pa_nil)))
      (pss_cons (ps_set (i := 5) sc_law.nd rfl (by first | exact Or.inl rfl | exact Or.inr rfl) (pe_call (ok_enemy_of_changer T) (hr.mono (by decide)) (by rfl) T.m_enemy_of_changer T.F_enemy_of_changer.kp T.b_enemy_of_changer .nil passU (pa_cons (pv 1) (pa_cons (pv 3) (pa_cons (pv 4) pa_nil)))))
      (pss_cons (ps_if (pt_not (ptT (pe_call (ok_law_good T) (hr.mono (by decide)) (by rfl) T.m_law_good T.F_law_good.kp T.b_law_good .nil passU (pa_cons (pv 5) (pa_cons (pv 1) (pa_cons (pv 3) (pa_cons (pv 4) pa_nil))))) (fun _ => rfl))) (pss_one (ps_ret pe_bl)) pss_nil)
      (pss_cons (ps_set (i := 6) sc_law.nd rfl (by first | exact Or.inl rfl | exact Or.inr rfl) (pe_tup (pa_cons pe_int (pa_cons (pe_callTy cList (by rfl) T.n_list PyProof.Rows.boot_list (pa_cons (pe_ix oIx (pv 5) pe_int (fun _ _ => rfl)) pa_nil)) (pa_cons (pe_callTy cList (by rfl) T.n_list PyProof.Rows.boot_list (pa_cons (pe_ix oIx (pv 5) pe_int (fun _ _ => rfl)) pa_nil)) pa_nil)))))
      (pss_cons (ps_expr (pe_bm0 PySem.F.plainAttrs_list PySem.F.slot_list_clear PySem.F.type_list_clear mt_clear (pe_ix oIx (pv 5) pe_int (fun _ _ => rfl))))
      (pss_cons (ps_expr (pe_bm0 PySem.F.plainAttrs_list PySem.F.slot_list_clear PySem.F.type_list_clear mt_clear (pe_ix oIx (pv 5) pe_int (fun _ _ => rfl))))
      (pss_cons (ps_if (pt_not (ptT (pe_call (ok_law_good T) (hr.mono (by decide)) (by rfl) T.m_law_good T.F_law_good.kp T.b_law_good .nil passU (pa_cons (pe_call (ok_enemy_of_changer T) (hr.mono (by decide)) (by rfl) T.m_enemy_of_changer T.F_enemy_of_changer.kp T.b_enemy_of_changer .nil passU (pa_cons (pe_op op_sub pe_int (pv 1)) (pa_cons pe_int (pa_cons pe_int pa_nil)))) (pa_cons (pe_op op_sub pe_int (pv 1)) (pa_cons pe_int (pa_cons pe_int pa_nil))))) (fun _ => rfl))) (pss_one (ps_ret pe_bl)) pss_nil)
      (pss_one (ps_ret (pe_call (ok_law_same T) (hr.mono (by decide)) (by rfl) T.m_law_same T.F_law_same.kp T.b_law_same .nil passU (pa_cons (pe_call (ok_enemy_of_changer T) (hr.mono (by decide)) (by rfl) T.m_enemy_of_changer T.F_enemy_of_changer.kp T.b_enemy_of_changer .nil passU (pa_cons (pv 1) (pa_cons (pv 3) (pa_cons (pv 4) pa_nil)))) (pa_cons (pv 6) pa_nil))))))))))))))))), ?_⟩
    repeat walk_at "vs"
    refine ⟨p, cs, 0, rfl, hS, by decide, hb, fun c0 hc0 => ?_⟩
    repeat walk_at "vs"
    refine ⟨c0, 71, rfl, by decide, by decide, fun k0 k00 k01 => ?_⟩
    obtain ⟨n, en, n1, n8⟩ : ∃ n : Nat, 1 + k0 % 8 = (n : Nat) ∧ 1 ≤ n ∧ n ≤ 8 := ⟨(1 + k0 % 8).toNat, by omega, by omega, by omega⟩
    repeat walk_at "vs"
    rw [en]
    refine ⟨p, cs, 1, rfl, hS, by decide, hb, fun c1 hc1 => ?_⟩
    repeat walk_at "vs"
    refine ⟨c1, 72, rfl, by decide, by decide, fun k1 k10 k11 => ?_⟩
    repeat walk_at "vs"
    refine iteD (fun c => ?_) (fun c => ?_)
    · repeat walk_at "vs"
      refine iteD (fun c => absurd c (by omega)) (fun _ => ?_)
      obtain ⟨tl, etl, tl1, tl2⟩ : ∃ tl : Int, 1 + k1 / 3 % 40 = tl ∧ 1 ≤ tl ∧ tl ≤ 1000000000000000000 := ⟨_, rfl, by omega, by omega⟩
      rw [etl]
      repeat walk_at "vs"
      refine ⟨p, cs, 2, rfl, hS, by decide, hb, fun c2 hc2 => ?_⟩
      repeat walk_at "vs"
      refine ⟨c2, rfl, fun m m1 m100 => ?_⟩
      repeat walk_at "vs"
      refine ⟨n, tl, m, rfl, n1, n8, by omega, by omega, by omega, .inl hT2, .inl hT1, fun tp wl yl H1 nw ny nwy E1 T1 TB1 e1 => ?_⟩
      repeat walk_at "vs"
      refine ⟨tp, wl, yl, n, tl, m, rfl, E1, n1, n8, by omega, by omega, by omega, fun H2 e2 => ?_⟩
      have E2 := E1.ext e2
      obtain ⟨ys, hw2, hR2⟩ := E2.ww
      have ht2 := E2.tt
      have hy2 := E2.yy
      repeat walk_at "vs"
      refine r_ixT ht2 rfl ?_
      repeat walk_at "vs"
      refine r_listL hw2 fun l3 H3 n3 q3 e3 => ?_
      repeat walk_at "vs"
      refine r_ixT (e3 _ _ ht2) rfl ?_
      repeat walk_at "vs"
      refine r_listL (e3 _ _ hy2) fun l4 H4 n4 q4 e4 => ?_
      repeat walk_at "vs"
      intro hd H5 n5 q5 e5
      have x5 := (e3.tr e4).tr e5
      have ht5 := x5 _ _ ht2
      have hw5 := x5 _ _ hw2
      have hy5 := x5 _ _ hy2
      have q35 := (e4.tr e5) _ _ q3
      have q45 := e5 _ _ q4
      have R5 : RefsH H5 ys (wsW n tl m) := hR2.mono x5
      have T5 : TabC a H5 := TabR.ext (e2.tr x5) T1
      have TB5 : TabB a H5 := TabR.ext (e2.tr x5) TB1
      have n3w : l3 ≠ wl := (ne_of_none hw2 n3).symm
      have n4w : l4 ≠ wl := (ne_of_none (e3 _ _ hw2) n4).symm
      have n3y : l3 ≠ yl := (ne_of_none hy2 n3).symm
      have n4y : l4 ≠ yl := (ne_of_none (e3 _ _ hy2) n4).symm
      repeat walk_at "vs"
      refine r_ixT ht5 rfl ?_
      repeat walk_at "vs"
      refine r_clear hw5 fun H6 q6 b6 => ?_
      have ht6 := b6 _ _ (ne_of ht5 hw5 (by intro z; cases z)) ht5
      have hy6 := b6 _ _ (Ne.symm nwy) hy5
      have R6 := RefsH.tk (tk_butL hw5 b6) R5
      have q36 := b6 _ _ n3w q35
      have q46 := b6 _ _ n4w q45
      have q56 := b6 _ _ (ne_of q5 hw5 (by intro z; cases z)) q5
      have T6 := TabR.butL hw5 b6 T5
      have TB6 := TabR.butL hw5 b6 TB5
      repeat walk_at "vs"
      refine r_ixT ht6 rfl ?_
      repeat walk_at "vs"
      refine r_clear hy6 fun H7 q7 b7 => ?_
      have R7 := RefsH.tk (tk_butL hy6 b7) R6
      have q37 := b7 _ _ n3y q36
      have q47 := b7 _ _ n4y q46
      have q57 := b7 _ _ (ne_of q56 hy6 (by intro z; cases z)) q56
      have T7 : TabC a H7 := TabR.butL hy6 b7 T6
      have TB7 : TabB a H7 := TabR.butL hy6 b7 TB6
      obtain ⟨n9, en9, n91, n98⟩ : ∃ n9 : Nat, 9 - (n : Int) = (n9 : Nat) ∧ 1 ≤ n9 ∧ n9 ≤ 8 := ⟨9 - n, by omega, by omega, by omega⟩
      repeat walk_at "vs"
      rw [en9]
      refine ⟨n9, 2, 5, rfl, n91, n98, by decide, by decide, by decide, T7, TB7, fun tp2 wl2 yl2 H8 nw2 ny2 nwy2 E8 T8 TB8 e8 => ?_⟩
      repeat walk_at "vs"
      rw [en9]
      refine ⟨tp2, wl2, yl2, n9, 2, 5, rfl, E8, n91, n98, by decide, by decide, by decide, fun H9 e9 => ?_⟩
      repeat walk_at "vs"
      refine ⟨n, tl, m, rfl, n1, n8, by omega, by omega, by omega, TabR.ext e9 T8, TabR.ext e9 TB8, fun tp3 wl3 yl3 H10 nw3 ny3 nwy3 E10 T10 TB10 e10 => ?_⟩
      have x10 : ExtT H7 H10 := (e8.ext e9).tr e10
      obtain ⟨ys3, hw10, hR10⟩ := E10.ww
      repeat walk_at "vs"
      exact same_yes (d := toldW (wsW n tl m) (wyI 0 ((wsW n tl m).map (mvW tl)))) (toldW_rep E10.tt hw10 hR10 E10.yy) (toldW_rep (x10 _ _ q57 rfl) (x10 _ _ q37 rfl) (RefsH.tk (tk_extT x10) R7) (x10 _ _ q47 rfl)) (toldW_fine _ _) (toldW_dep _ _) fun H11 e11 => hq H11
    · repeat walk_at "vs"
      refine iteD (fun c => ?_) (fun c => ?_)
      · repeat walk_at "vs"
        refine ⟨p, cs, 1, rfl, hS, by decide, hb, fun c1' hc1' => ?_⟩
        repeat walk_at "vs"
        refine r_I (mulM (Nat.le_succ_of_le hc1') k10 k11) ?_
        repeat walk_at "vs"
        obtain ⟨tl, etl, tl1, tl2⟩ : ∃ tl : Int, 1 + (c1' + k1) * 948273388530662767682822077 % 1000000000000000000 = tl ∧ 1 ≤ tl ∧ tl ≤ 1000000000000000000 := ⟨_, rfl, by omega, by omega⟩
        rw [etl]
        repeat walk_at "vs"
        refine ⟨p, cs, 2, rfl, hS, by decide, hb, fun c2 hc2 => ?_⟩
        repeat walk_at "vs"
        refine ⟨c2, rfl, fun m m1 m100 => ?_⟩
        repeat walk_at "vs"
        refine ⟨n, tl, m, rfl, n1, n8, by omega, by omega, by omega, .inl hT2, .inl hT1, fun tp wl yl H1 nw ny nwy E1 T1 TB1 e1 => ?_⟩
        repeat walk_at "vs"
        refine ⟨tp, wl, yl, n, tl, m, rfl, E1, n1, n8, by omega, by omega, by omega, fun H2 e2 => ?_⟩
        have E2 := E1.ext e2
        obtain ⟨ys, hw2, hR2⟩ := E2.ww
        have ht2 := E2.tt
        have hy2 := E2.yy
        repeat walk_at "vs"
        refine r_ixT ht2 rfl ?_
        repeat walk_at "vs"
        refine r_listL hw2 fun l3 H3 n3 q3 e3 => ?_
        repeat walk_at "vs"
        refine r_ixT (e3 _ _ ht2) rfl ?_
        repeat walk_at "vs"
        refine r_listL (e3 _ _ hy2) fun l4 H4 n4 q4 e4 => ?_
        repeat walk_at "vs"
        intro hd H5 n5 q5 e5
        have x5 := (e3.tr e4).tr e5
        have ht5 := x5 _ _ ht2
        have hw5 := x5 _ _ hw2
        have hy5 := x5 _ _ hy2
        have q35 := (e4.tr e5) _ _ q3
        have q45 := e5 _ _ q4
        have R5 : RefsH H5 ys (wsW n tl m) := hR2.mono x5
        have T5 : TabC a H5 := TabR.ext (e2.tr x5) T1
        have TB5 : TabB a H5 := TabR.ext (e2.tr x5) TB1
        have n3w : l3 ≠ wl := (ne_of_none hw2 n3).symm
        have n4w : l4 ≠ wl := (ne_of_none (e3 _ _ hw2) n4).symm
        have n3y : l3 ≠ yl := (ne_of_none hy2 n3).symm
        have n4y : l4 ≠ yl := (ne_of_none (e3 _ _ hy2) n4).symm
        repeat walk_at "vs"
        refine r_ixT ht5 rfl ?_
        repeat walk_at "vs"
        refine r_clear hw5 fun H6 q6 b6 => ?_
        have ht6 := b6 _ _ (ne_of ht5 hw5 (by intro z; cases z)) ht5
        have hy6 := b6 _ _ (Ne.symm nwy) hy5
        have R6 := RefsH.tk (tk_butL hw5 b6) R5
        have q36 := b6 _ _ n3w q35
        have q46 := b6 _ _ n4w q45
        have q56 := b6 _ _ (ne_of q5 hw5 (by intro z; cases z)) q5
        have T6 := TabR.butL hw5 b6 T5
        have TB6 := TabR.butL hw5 b6 TB5
        repeat walk_at "vs"
        refine r_ixT ht6 rfl ?_
        repeat walk_at "vs"
        refine r_clear hy6 fun H7 q7 b7 => ?_
        have R7 := RefsH.tk (tk_butL hy6 b7) R6
        have q37 := b7 _ _ n3y q36
        have q47 := b7 _ _ n4y q46
        have q57 := b7 _ _ (ne_of q56 hy6 (by intro z; cases z)) q56
        have T7 : TabC a H7 := TabR.butL hy6 b7 T6
        have TB7 : TabB a H7 := TabR.butL hy6 b7 TB6
        obtain ⟨n9, en9, n91, n98⟩ : ∃ n9 : Nat, 9 - (n : Int) = (n9 : Nat) ∧ 1 ≤ n9 ∧ n9 ≤ 8 := ⟨9 - n, by omega, by omega, by omega⟩
        repeat walk_at "vs"
        rw [en9]
        refine ⟨n9, 2, 5, rfl, n91, n98, by decide, by decide, by decide, T7, TB7, fun tp2 wl2 yl2 H8 nw2 ny2 nwy2 E8 T8 TB8 e8 => ?_⟩
        repeat walk_at "vs"
        rw [en9]
        refine ⟨tp2, wl2, yl2, n9, 2, 5, rfl, E8, n91, n98, by decide, by decide, by decide, fun H9 e9 => ?_⟩
        repeat walk_at "vs"
        refine ⟨n, tl, m, rfl, n1, n8, by omega, by omega, by omega, TabR.ext e9 T8, TabR.ext e9 TB8, fun tp3 wl3 yl3 H10 nw3 ny3 nwy3 E10 T10 TB10 e10 => ?_⟩
        have x10 : ExtT H7 H10 := (e8.ext e9).tr e10
        obtain ⟨ys3, hw10, hR10⟩ := E10.ww
        repeat walk_at "vs"
        exact same_yes (d := toldW (wsW n tl m) (wyI 0 ((wsW n tl m).map (mvW tl)))) (toldW_rep E10.tt hw10 hR10 E10.yy) (toldW_rep (x10 _ _ q57 rfl) (x10 _ _ q37 rfl) (RefsH.tk (tk_extT x10) R7) (x10 _ _ q47 rfl)) (toldW_fine _ _) (toldW_dep _ _) fun H11 e11 => hq H11
      · obtain ⟨tl, etl, tl1, tl2⟩ : ∃ tl : Int, 1 + k1 / 3 % 4 = tl ∧ 1 ≤ tl ∧ tl ≤ 1000000000000000000 := ⟨_, rfl, by omega, by omega⟩
        rw [etl]
        repeat walk_at "vs"
        refine ⟨p, cs, 2, rfl, hS, by decide, hb, fun c2 hc2 => ?_⟩
        repeat walk_at "vs"
        refine ⟨c2, rfl, fun m m1 m100 => ?_⟩
        repeat walk_at "vs"
        refine ⟨n, tl, m, rfl, n1, n8, by omega, by omega, by omega, .inl hT2, .inl hT1, fun tp wl yl H1 nw ny nwy E1 T1 TB1 e1 => ?_⟩
        repeat walk_at "vs"
        refine ⟨tp, wl, yl, n, tl, m, rfl, E1, n1, n8, by omega, by omega, by omega, fun H2 e2 => ?_⟩
        have E2 := E1.ext e2
        obtain ⟨ys, hw2, hR2⟩ := E2.ww
        have ht2 := E2.tt
        have hy2 := E2.yy
        repeat walk_at "vs"
        refine r_ixT ht2 rfl ?_
        repeat walk_at "vs"
        refine r_listL hw2 fun l3 H3 n3 q3 e3 => ?_
        repeat walk_at "vs"
        refine r_ixT (e3 _ _ ht2) rfl ?_
        repeat walk_at "vs"
        refine r_listL (e3 _ _ hy2) fun l4 H4 n4 q4 e4 => ?_
        repeat walk_at "vs"
        intro hd H5 n5 q5 e5
        have x5 := (e3.tr e4).tr e5
        have ht5 := x5 _ _ ht2
        have hw5 := x5 _ _ hw2
        have hy5 := x5 _ _ hy2
        have q35 := (e4.tr e5) _ _ q3
        have q45 := e5 _ _ q4
        have R5 : RefsH H5 ys (wsW n tl m) := hR2.mono x5
        have T5 : TabC a H5 := TabR.ext (e2.tr x5) T1
        have TB5 : TabB a H5 := TabR.ext (e2.tr x5) TB1
        have n3w : l3 ≠ wl := (ne_of_none hw2 n3).symm
        have n4w : l4 ≠ wl := (ne_of_none (e3 _ _ hw2) n4).symm
        have n3y : l3 ≠ yl := (ne_of_none hy2 n3).symm
        have n4y : l4 ≠ yl := (ne_of_none (e3 _ _ hy2) n4).symm
        repeat walk_at "vs"
        refine r_ixT ht5 rfl ?_
        repeat walk_at "vs"
        refine r_clear hw5 fun H6 q6 b6 => ?_
        have ht6 := b6 _ _ (ne_of ht5 hw5 (by intro z; cases z)) ht5
        have hy6 := b6 _ _ (Ne.symm nwy) hy5
        have R6 := RefsH.tk (tk_butL hw5 b6) R5
        have q36 := b6 _ _ n3w q35
        have q46 := b6 _ _ n4w q45
        have q56 := b6 _ _ (ne_of q5 hw5 (by intro z; cases z)) q5
        have T6 := TabR.butL hw5 b6 T5
        have TB6 := TabR.butL hw5 b6 TB5
        repeat walk_at "vs"
        refine r_ixT ht6 rfl ?_
        repeat walk_at "vs"
        refine r_clear hy6 fun H7 q7 b7 => ?_
        have R7 := RefsH.tk (tk_butL hy6 b7) R6
        have q37 := b7 _ _ n3y q36
        have q47 := b7 _ _ n4y q46
        have q57 := b7 _ _ (ne_of q56 hy6 (by intro z; cases z)) q56
        have T7 : TabC a H7 := TabR.butL hy6 b7 T6
        have TB7 : TabB a H7 := TabR.butL hy6 b7 TB6
        obtain ⟨n9, en9, n91, n98⟩ : ∃ n9 : Nat, 9 - (n : Int) = (n9 : Nat) ∧ 1 ≤ n9 ∧ n9 ≤ 8 := ⟨9 - n, by omega, by omega, by omega⟩
        repeat walk_at "vs"
        rw [en9]
        refine ⟨n9, 2, 5, rfl, n91, n98, by decide, by decide, by decide, T7, TB7, fun tp2 wl2 yl2 H8 nw2 ny2 nwy2 E8 T8 TB8 e8 => ?_⟩
        repeat walk_at "vs"
        rw [en9]
        refine ⟨tp2, wl2, yl2, n9, 2, 5, rfl, E8, n91, n98, by decide, by decide, by decide, fun H9 e9 => ?_⟩
        repeat walk_at "vs"
        refine ⟨n, tl, m, rfl, n1, n8, by omega, by omega, by omega, TabR.ext e9 T8, TabR.ext e9 TB8, fun tp3 wl3 yl3 H10 nw3 ny3 nwy3 E10 T10 TB10 e10 => ?_⟩
        have x10 : ExtT H7 H10 := (e8.ext e9).tr e10
        obtain ⟨ys3, hw10, hR10⟩ := E10.ww
        repeat walk_at "vs"
        exact same_yes (d := toldW (wsW n tl m) (wyI 0 ((wsW n tl m).map (mvW tl)))) (toldW_rep E10.tt hw10 hR10 E10.yy) (toldW_rep (x10 _ _ q57 rfl) (x10 _ _ q37 rfl) (RefsH.tk (tk_extT x10) R7) (x10 _ _ q47 rfl)) (toldW_fine _ _) (toldW_dep _ _) fun H11 e11 => hq H11
end
theorem all_mk {ts : List Addr} {l : PySem.W.OpenLaw} {w : World} {K : PySem.W.Frag} {h : Heap} {mg : Str → Option Value} {fa : Addr} (X : K.In h) (G : h.Ns mainGlobals mg) (hfa : mg "law" = some (.ref fa))
    {f_law : Addr} {od_law an_law : Option Addr} {sl_law : Array (Option Value)} {oc_law kV_law dc_law pm_law cd_law ct_law : Value}
    {f_law_same : Addr} {od_law_same an_law_same : Option Addr} {sl_law_same : Array (Option Value)} {oc_law_same kV_law_same dc_law_same pm_law_same cd_law_same ct_law_same : Value}
    {f_law_whole : Addr} {od_law_whole an_law_whole : Option Addr} {sl_law_whole : Array (Option Value)} {oc_law_whole kV_law_whole dc_law_whole pm_law_whole cd_law_whole ct_law_whole : Value}
    {f_law_all_same : Addr} {od_law_all_same an_law_all_same : Option Addr} {sl_law_all_same : Array (Option Value)} {oc_law_all_same kV_law_all_same dc_law_all_same pm_law_all_same cd_law_all_same ct_law_all_same : Value}
    {f_enemy_of_changer : Addr} {od_enemy_of_changer an_enemy_of_changer : Option Addr} {sl_enemy_of_changer : Array (Option Value)} {oc_enemy_of_changer kV_enemy_of_changer dc_enemy_of_changer pm_enemy_of_changer ct_enemy_of_changer : Value}
    {ck_enemy_of_changer tb_enemy_of_changer : Addr} {cdd_enemy_of_changer : Option Addr} {cvs_enemy_of_changer : Array Value} {csl_enemy_of_changer : Array (Option Value)}
    {f_best : Addr} {od_best an_best : Option Addr} {sl_best : Array (Option Value)} {oc_best kV_best dc_best pm_best ct_best : Value}
    {ck_best tb_best : Addr} {cdd_best : Option Addr} {cvs_best : Array Value} {csl_best : Array (Option Value)}
    {f_traced_rows : Addr} {od_traced_rows an_traced_rows : Option Addr} {sl_traced_rows : Array (Option Value)} {oc_traced_rows kV_traced_rows dc_traced_rows pm_traced_rows cd_traced_rows ct_traced_rows : Value}
    {f_reached : Addr} {od_reached an_reached : Option Addr} {sl_reached : Array (Option Value)} {oc_reached kV_reached dc_reached pm_reached cd_reached ct_reached : Value}
    {f_Ways_moves : Addr} {od_Ways_moves an_Ways_moves : Option Addr} {sl_Ways_moves : Array (Option Value)} {oc_Ways_moves kV_Ways_moves dc_Ways_moves pm_Ways_moves cd_Ways_moves ct_Ways_moves : Value}
    {f_World_priced : Addr} {od_World_priced an_World_priced : Option Addr} {sl_World_priced : Array (Option Value)} {oc_World_priced kV_World_priced dc_World_priced pm_World_priced cd_World_priced ct_World_priced : Value}
    {f_Ways_price : Addr} {od_Ways_price an_Ways_price : Option Addr} {sl_Ways_price : Array (Option Value)} {oc_Ways_price kV_Ways_price dc_Ways_price pm_Ways_price cd_Ways_price ct_Ways_price : Value}
    {f_wishes_against : Addr} {od_wishes_against an_wishes_against : Option Addr} {sl_wishes_against : Array (Option Value)} {oc_wishes_against kV_wishes_against dc_wishes_against pm_wishes_against cd_wishes_against ct_wishes_against : Value}
    {f_Rule_pay : Addr} {od_Rule_pay an_Rule_pay : Option Addr} {sl_Rule_pay : Array (Option Value)} {oc_Rule_pay kV_Rule_pay dc_Rule_pay pm_Rule_pay cd_Rule_pay ct_Rule_pay : Value}
    {f_Changer_learn : Addr} {od_Changer_learn an_Changer_learn : Option Addr} {sl_Changer_learn : Array (Option Value)} {oc_Changer_learn kV_Changer_learn dc_Changer_learn pm_Changer_learn cd_Changer_learn ct_Changer_learn : Value}
    {f_Changer_charged : Addr} {od_Changer_charged an_Changer_charged : Option Addr} {sl_Changer_charged : Array (Option Value)} {oc_Changer_charged kV_Changer_charged dc_Changer_charged pm_Changer_charged cd_Changer_charged ct_Changer_charged : Value}
    {f_Rule_price_to : Addr} {od_Rule_price_to an_Rule_price_to : Option Addr} {sl_Rule_price_to : Array (Option Value)} {oc_Rule_price_to kV_Rule_price_to dc_Rule_price_to pm_Rule_price_to cd_Rule_price_to ct_Rule_price_to : Value}
    {f_Changer_target : Addr} {od_Changer_target an_Changer_target : Option Addr} {sl_Changer_target : Array (Option Value)} {oc_Changer_target kV_Changer_target dc_Changer_target pm_Changer_target cd_Changer_target ct_Changer_target : Value}
    {f_Ways_is_wish : Addr} {od_Ways_is_wish an_Ways_is_wish : Option Addr} {sl_Ways_is_wish : Array (Option Value)} {oc_Ways_is_wish kV_Ways_is_wish dc_Ways_is_wish pm_Ways_is_wish cd_Ways_is_wish ct_Ways_is_wish : Value}
    {f_is_amount : Addr} {od_is_amount an_is_amount : Option Addr} {sl_is_amount : Array (Option Value)} {oc_is_amount kV_is_amount dc_is_amount pm_is_amount cd_is_amount ct_is_amount : Value}
    {f_is_whole_number : Addr} {od_is_whole_number an_is_whole_number : Option Addr} {sl_is_whole_number : Array (Option Value)} {oc_is_whole_number kV_is_whole_number dc_is_whole_number pm_is_whole_number cd_is_whole_number ct_is_whole_number : Value}
    {f_Rule_state : Addr} {od_Rule_state an_Rule_state : Option Addr} {sl_Rule_state : Array (Option Value)} {oc_Rule_state kV_Rule_state dc_Rule_state pm_Rule_state cd_Rule_state ct_Rule_state : Value}
    {f_Changer_init : Addr} {od_Changer_init an_Changer_init : Option Addr} {sl_Changer_init : Array (Option Value)} {oc_Changer_init kV_Changer_init dc_Changer_init pm_Changer_init cd_Changer_init ct_Changer_init : Value}
    {f_Rule_init : Addr} {od_Rule_init an_Rule_init : Option Addr} {sl_Rule_init : Array (Option Value)} {oc_Rule_init kV_Rule_init dc_Rule_init pm_Rule_init cd_Rule_init ct_Rule_init : Value}
    {f_Ways_is_state : Addr} {od_Ways_is_state an_Ways_is_state : Option Addr} {sl_Ways_is_state : Array (Option Value)} {oc_Ways_is_state kV_Ways_is_state dc_Ways_is_state pm_Ways_is_state cd_Ways_is_state ct_Ways_is_state : Value}
    {f_Ways_init : Addr} {od_Ways_init an_Ways_init : Option Addr} {sl_Ways_init : Array (Option Value)} {oc_Ways_init kV_Ways_init dc_Ways_init pm_Ways_init cd_Ways_init ct_Ways_init : Value}
    {f_is_from_one_to : Addr} {od_is_from_one_to an_is_from_one_to : Option Addr} {sl_is_from_one_to : Array (Option Value)} {oc_is_from_one_to kV_is_from_one_to dc_is_from_one_to pm_is_from_one_to cd_is_from_one_to ct_is_from_one_to : Value}
    {f_law_good : Addr} {od_law_good an_law_good : Option Addr} {sl_law_good : Array (Option Value)} {oc_law_good kV_law_good dc_law_good pm_law_good cd_law_good ct_law_good : Value}
    {f_law_plan : Addr} {od_law_plan an_law_plan : Option Addr} {sl_law_plan : Array (Option Value)} {oc_law_plan kV_law_plan dc_law_plan pm_law_plan cd_law_plan ct_law_plan : Value}
    {f_law_pay : Addr} {od_law_pay an_law_pay : Option Addr} {sl_law_pay : Array (Option Value)} {oc_law_pay kV_law_pay dc_law_pay pm_law_pay cd_law_pay ct_law_pay : Value}
    {f_law_is_wish : Addr} {od_law_is_wish an_law_is_wish : Option Addr} {sl_law_is_wish : Array (Option Value)} {oc_law_is_wish kV_law_is_wish dc_law_is_wish pm_law_is_wish cd_law_is_wish ct_law_is_wish : Value}
    {f_law_many : Addr} {od_law_many an_law_many : Option Addr} {sl_law_many : Array (Option Value)} {oc_law_many kV_law_many dc_law_many pm_law_many cd_law_many ct_law_many : Value}
    {f_law_mixed : Addr} {od_law_mixed an_law_mixed : Option Addr} {sl_law_mixed : Array (Option Value)} {oc_law_mixed kV_law_mixed dc_law_mixed pm_law_mixed cd_law_mixed ct_law_mixed : Value}
    {f_law_cell : Addr} {od_law_cell an_law_cell : Option Addr} {sl_law_cell : Array (Option Value)} {oc_law_cell kV_law_cell dc_law_cell pm_law_cell cd_law_cell ct_law_cell : Value}
    {c_World : Addr}
    {c_Rule : Addr}
    {c_Bound : Addr}
    {c_Ways : Addr}
    {c_Changer : Addr}
    {dt_Changer_init : Addr} {dc_Changer_init_ : Value} {dd_Changer_init : Option Addr} {dn_Changer_init : Nat} {ds_Changer_init : Array (Option Value)} {dk_Changer_init_0 : Tok}
    {t_MOST_STATES : Tok}
    (aC_World : PySem.W.nsIn K mainGlobals "World" = some (some (.ref c_World)))
    (aC_Rule : PySem.W.nsIn K mainGlobals "Rule" = some (some (.ref c_Rule)))
    (aC_Bound : PySem.W.nsIn K mainGlobals "Bound" = some (some (.ref c_Bound)))
    (aC_Ways : PySem.W.nsIn K mainGlobals "Ways" = some (some (.ref c_Ways)))
    (aC_Changer : PySem.W.nsIn K mainGlobals "Changer" = some (some (.ref c_Changer)))
    (a_law : PySem.W.nsIn K mainGlobals "law" = some (some (.ref f_law)))
    (l_law : K.lookup f_law = some ⟨oc_law, od_law, .func (PySem.W.fnOf "law" "law" (defArgs s_law) (defBody s_law) (defScope s_law) (.none) kV_law dc_law pm_law an_law cd_law ct_law), sl_law⟩)
    (k_law : PySem.W.codeIn K cd_law "law" = true)
    (p_law : PySem.W.keepIn K (.ref f_law) = true)
    (a_law_same : PySem.W.nsIn K mainGlobals "_law_same" = some (some (.ref f_law_same)))
    (l_law_same : K.lookup f_law_same = some ⟨oc_law_same, od_law_same, .func (PySem.W.fnOf "_law_same" "_law_same" (defArgs s_law_same) (defBody s_law_same) (defScope s_law_same) (.none) kV_law_same dc_law_same pm_law_same an_law_same cd_law_same ct_law_same), sl_law_same⟩)
    (k_law_same : PySem.W.codeIn K cd_law_same "_law_same" = true)
    (p_law_same : PySem.W.keepIn K (.ref f_law_same) = true)
    (a_law_whole : PySem.W.nsIn K mainGlobals "_law_whole" = some (some (.ref f_law_whole)))
    (l_law_whole : K.lookup f_law_whole = some ⟨oc_law_whole, od_law_whole, .func (PySem.W.fnOf "_law_whole" "_law_whole" (defArgs s_law_whole) (defBody s_law_whole) (defScope s_law_whole) (.none) kV_law_whole dc_law_whole pm_law_whole an_law_whole cd_law_whole ct_law_whole), sl_law_whole⟩)
    (k_law_whole : PySem.W.codeIn K cd_law_whole "_law_whole" = true)
    (p_law_whole : PySem.W.keepIn K (.ref f_law_whole) = true)
    (a_law_all_same : PySem.W.nsIn K mainGlobals "_law_all_same" = some (some (.ref f_law_all_same)))
    (l_law_all_same : K.lookup f_law_all_same = some ⟨oc_law_all_same, od_law_all_same, .func (PySem.W.fnOf "_law_all_same" "_law_all_same" (defArgs s_law_all_same) (defBody s_law_all_same) (defScope s_law_all_same) (.none) kV_law_all_same dc_law_all_same pm_law_all_same an_law_all_same cd_law_all_same ct_law_all_same), sl_law_all_same⟩)
    (k_law_all_same : PySem.W.codeIn K cd_law_all_same "_law_all_same" = true)
    (p_law_all_same : PySem.W.keepIn K (.ref f_law_all_same) = true)
    (a_enemy_of_changer : PySem.W.nsIn K mainGlobals "enemy_of_changer" = some (some (.ref f_enemy_of_changer)))
    (l_enemy_of_changer : K.lookup f_enemy_of_changer = some ⟨oc_enemy_of_changer, od_enemy_of_changer, .func (PySem.W.fnOf "enemy_of_changer" "enemy_of_changer" (defArgs s_enemy_of_changer) (defBody s_enemy_of_changer) (defScope s_enemy_of_changer) (.none) kV_enemy_of_changer dc_enemy_of_changer pm_enemy_of_changer an_enemy_of_changer (.ref ck_enemy_of_changer) ct_enemy_of_changer), sl_enemy_of_changer⟩)
    (lc_enemy_of_changer : K.lookup ck_enemy_of_changer = some ⟨.type "code", cdd_enemy_of_changer, .fields cvs_enemy_of_changer, csl_enemy_of_changer⟩)
    (pt_enemy_of_changer : cvs_enemy_of_changer[11]? = some (.ref tb_enemy_of_changer))
    (hd_enemy_of_changer : PySem.W.codeHdIn K ck_enemy_of_changer tb_enemy_of_changer = true)
    (tc_enemy_of_changer : ts.contains tb_enemy_of_changer = true)
    (k_enemy_of_changer : PySem.W.codeIn K (.ref ck_enemy_of_changer) "enemy_of_changer" = true)
    (p_enemy_of_changer : PySem.W.keepIn K (.ref f_enemy_of_changer) = true)
    (a_best : PySem.W.nsIn K mainGlobals "best" = some (some (.ref f_best)))
    (l_best : K.lookup f_best = some ⟨oc_best, od_best, .func (PySem.W.fnOf "best" "best" (defArgs s_best) (defBody s_best) (defScope s_best) (.none) kV_best dc_best pm_best an_best (.ref ck_best) ct_best), sl_best⟩)
    (lc_best : K.lookup ck_best = some ⟨.type "code", cdd_best, .fields cvs_best, csl_best⟩)
    (pt_best : cvs_best[11]? = some (.ref tb_best))
    (hd_best : PySem.W.codeHdIn K ck_best tb_best = true)
    (tc_best : ts.contains tb_best = true)
    (k_best : PySem.W.codeIn K (.ref ck_best) "best" = true)
    (p_best : PySem.W.keepIn K (.ref f_best) = true)
    (a_traced_rows : PySem.W.nsIn K mainGlobals "traced_rows" = some (some (.ref f_traced_rows)))
    (l_traced_rows : K.lookup f_traced_rows = some ⟨oc_traced_rows, od_traced_rows, .func (PySem.W.fnOf "traced_rows" "traced_rows" (defArgs s_traced_rows) (defBody s_traced_rows) (defScope s_traced_rows) (.none) kV_traced_rows dc_traced_rows pm_traced_rows an_traced_rows cd_traced_rows ct_traced_rows), sl_traced_rows⟩)
    (k_traced_rows : PySem.W.codeIn K cd_traced_rows "traced_rows" = true)
    (p_traced_rows : PySem.W.keepIn K (.ref f_traced_rows) = true)
    (a_reached : PySem.W.nsIn K mainGlobals "reached" = some (some (.ref f_reached)))
    (l_reached : K.lookup f_reached = some ⟨oc_reached, od_reached, .func (PySem.W.fnOf "reached" "reached" (defArgs s_reached) (defBody s_reached) (defScope s_reached) (.none) kV_reached dc_reached pm_reached an_reached cd_reached ct_reached), sl_reached⟩)
    (k_reached : PySem.W.codeIn K cd_reached "reached" = true)
    (p_reached : PySem.W.keepIn K (.ref f_reached) = true)
    (a_Ways_moves : PySem.W.findIn K (.ref c_Ways) "moves" = some (some (.ref f_Ways_moves)))
    (l_Ways_moves : K.lookup f_Ways_moves = some ⟨oc_Ways_moves, od_Ways_moves, .func (PySem.W.fnOf "moves" "Ways.moves" (defArgs s_Ways_moves) (defBody s_Ways_moves) (defScope s_Ways_moves) (.none) kV_Ways_moves dc_Ways_moves pm_Ways_moves an_Ways_moves cd_Ways_moves ct_Ways_moves), sl_Ways_moves⟩)
    (k_Ways_moves : PySem.W.codeIn K cd_Ways_moves "Ways.moves" = true)
    (p_Ways_moves : PySem.W.keepIn K (.ref f_Ways_moves) = true)
    (a_World_priced : PySem.W.findIn K (.ref c_World) "priced" = some (some (.ref f_World_priced)))
    (l_World_priced : K.lookup f_World_priced = some ⟨oc_World_priced, od_World_priced, .func (PySem.W.fnOf "priced" "World.priced" (defArgs s_World_priced) (defBody s_World_priced) (defScope s_World_priced) (.none) kV_World_priced dc_World_priced pm_World_priced an_World_priced cd_World_priced ct_World_priced), sl_World_priced⟩)
    (k_World_priced : PySem.W.codeIn K cd_World_priced "World.priced" = true)
    (p_World_priced : PySem.W.keepIn K (.ref f_World_priced) = true)
    (a_Ways_price : PySem.W.findIn K (.ref c_Ways) "price" = some (some (.ref f_Ways_price)))
    (l_Ways_price : K.lookup f_Ways_price = some ⟨oc_Ways_price, od_Ways_price, .func (PySem.W.fnOf "price" "Ways.price" (defArgs s_Ways_price) (defBody s_Ways_price) (defScope s_Ways_price) (.none) kV_Ways_price dc_Ways_price pm_Ways_price an_Ways_price cd_Ways_price ct_Ways_price), sl_Ways_price⟩)
    (k_Ways_price : PySem.W.codeIn K cd_Ways_price "Ways.price" = true)
    (p_Ways_price : PySem.W.keepIn K (.ref f_Ways_price) = true)
    (a_wishes_against : PySem.W.nsIn K mainGlobals "wishes_against" = some (some (.ref f_wishes_against)))
    (l_wishes_against : K.lookup f_wishes_against = some ⟨oc_wishes_against, od_wishes_against, .func (PySem.W.fnOf "wishes_against" "wishes_against" (defArgs s_wishes_against) (defBody s_wishes_against) (defScope s_wishes_against) (.none) kV_wishes_against dc_wishes_against pm_wishes_against an_wishes_against cd_wishes_against ct_wishes_against), sl_wishes_against⟩)
    (k_wishes_against : PySem.W.codeIn K cd_wishes_against "wishes_against" = true)
    (p_wishes_against : PySem.W.keepIn K (.ref f_wishes_against) = true)
    (a_Rule_pay : PySem.W.findIn K (.ref c_Rule) "pay" = some (some (.ref f_Rule_pay)))
    (l_Rule_pay : K.lookup f_Rule_pay = some ⟨oc_Rule_pay, od_Rule_pay, .func (PySem.W.fnOf "pay" "Rule.pay" (defArgs s_Rule_pay) (defBody s_Rule_pay) (defScope s_Rule_pay) (.none) kV_Rule_pay dc_Rule_pay pm_Rule_pay an_Rule_pay cd_Rule_pay ct_Rule_pay), sl_Rule_pay⟩)
    (k_Rule_pay : PySem.W.codeIn K cd_Rule_pay "Rule.pay" = true)
    (p_Rule_pay : PySem.W.keepIn K (.ref f_Rule_pay) = true)
    (a_Changer_learn : PySem.W.findIn K (.ref c_Changer) "learn" = some (some (.ref f_Changer_learn)))
    (l_Changer_learn : K.lookup f_Changer_learn = some ⟨oc_Changer_learn, od_Changer_learn, .func (PySem.W.fnOf "learn" "Changer.learn" (defArgs s_Changer_learn) (defBody s_Changer_learn) (defScope s_Changer_learn) (.none) kV_Changer_learn dc_Changer_learn pm_Changer_learn an_Changer_learn cd_Changer_learn ct_Changer_learn), sl_Changer_learn⟩)
    (k_Changer_learn : PySem.W.codeIn K cd_Changer_learn "Changer.learn" = true)
    (p_Changer_learn : PySem.W.keepIn K (.ref f_Changer_learn) = true)
    (a_Changer_charged : PySem.W.findIn K (.ref c_Changer) "charged" = some (some (.ref f_Changer_charged)))
    (l_Changer_charged : K.lookup f_Changer_charged = some ⟨oc_Changer_charged, od_Changer_charged, .func (PySem.W.fnOf "charged" "Changer.charged" (defArgs s_Changer_charged) (defBody s_Changer_charged) (defScope s_Changer_charged) (.none) kV_Changer_charged dc_Changer_charged pm_Changer_charged an_Changer_charged cd_Changer_charged ct_Changer_charged), sl_Changer_charged⟩)
    (k_Changer_charged : PySem.W.codeIn K cd_Changer_charged "Changer.charged" = true)
    (p_Changer_charged : PySem.W.keepIn K (.ref f_Changer_charged) = true)
    (a_Rule_price_to : PySem.W.findIn K (.ref c_Rule) "price_to" = some (some (.ref f_Rule_price_to)))
    (l_Rule_price_to : K.lookup f_Rule_price_to = some ⟨oc_Rule_price_to, od_Rule_price_to, .func (PySem.W.fnOf "price_to" "Rule.price_to" (defArgs s_Rule_price_to) (defBody s_Rule_price_to) (defScope s_Rule_price_to) (.none) kV_Rule_price_to dc_Rule_price_to pm_Rule_price_to an_Rule_price_to cd_Rule_price_to ct_Rule_price_to), sl_Rule_price_to⟩)
    (k_Rule_price_to : PySem.W.codeIn K cd_Rule_price_to "Rule.price_to" = true)
    (p_Rule_price_to : PySem.W.keepIn K (.ref f_Rule_price_to) = true)
    (a_Changer_target : PySem.W.findIn K (.ref c_Changer) "target" = some (some (.ref f_Changer_target)))
    (l_Changer_target : K.lookup f_Changer_target = some ⟨oc_Changer_target, od_Changer_target, .func (PySem.W.fnOf "target" "Changer.target" (defArgs s_Changer_target) (defBody s_Changer_target) (defScope s_Changer_target) (.none) kV_Changer_target dc_Changer_target pm_Changer_target an_Changer_target cd_Changer_target ct_Changer_target), sl_Changer_target⟩)
    (k_Changer_target : PySem.W.codeIn K cd_Changer_target "Changer.target" = true)
    (p_Changer_target : PySem.W.keepIn K (.ref f_Changer_target) = true)
    (a_Ways_is_wish : PySem.W.findIn K (.ref c_Ways) "is_wish" = some (some (.ref f_Ways_is_wish)))
    (l_Ways_is_wish : K.lookup f_Ways_is_wish = some ⟨oc_Ways_is_wish, od_Ways_is_wish, .func (PySem.W.fnOf "is_wish" "Ways.is_wish" (defArgs s_Ways_is_wish) (defBody s_Ways_is_wish) (defScope s_Ways_is_wish) (.none) kV_Ways_is_wish dc_Ways_is_wish pm_Ways_is_wish an_Ways_is_wish cd_Ways_is_wish ct_Ways_is_wish), sl_Ways_is_wish⟩)
    (k_Ways_is_wish : PySem.W.codeIn K cd_Ways_is_wish "Ways.is_wish" = true)
    (p_Ways_is_wish : PySem.W.keepIn K (.ref f_Ways_is_wish) = true)
    (a_is_amount : PySem.W.nsIn K mainGlobals "is_amount" = some (some (.ref f_is_amount)))
    (l_is_amount : K.lookup f_is_amount = some ⟨oc_is_amount, od_is_amount, .func (PySem.W.fnOf "is_amount" "is_amount" (defArgs s_is_amount) (defBody s_is_amount) (defScope s_is_amount) (.none) kV_is_amount dc_is_amount pm_is_amount an_is_amount cd_is_amount ct_is_amount), sl_is_amount⟩)
    (k_is_amount : PySem.W.codeIn K cd_is_amount "is_amount" = true)
    (p_is_amount : PySem.W.keepIn K (.ref f_is_amount) = true)
    (a_is_whole_number : PySem.W.nsIn K mainGlobals "is_whole_number" = some (some (.ref f_is_whole_number)))
    (l_is_whole_number : K.lookup f_is_whole_number = some ⟨oc_is_whole_number, od_is_whole_number, .func (PySem.W.fnOf "is_whole_number" "is_whole_number" (defArgs s_is_whole_number) (defBody s_is_whole_number) (defScope s_is_whole_number) (.none) kV_is_whole_number dc_is_whole_number pm_is_whole_number an_is_whole_number cd_is_whole_number ct_is_whole_number), sl_is_whole_number⟩)
    (k_is_whole_number : PySem.W.codeIn K cd_is_whole_number "is_whole_number" = true)
    (p_is_whole_number : PySem.W.keepIn K (.ref f_is_whole_number) = true)
    (a_Rule_state : PySem.W.findIn K (.ref c_Rule) "state" = some (some (.ref f_Rule_state)))
    (l_Rule_state : K.lookup f_Rule_state = some ⟨oc_Rule_state, od_Rule_state, .func (PySem.W.fnOf "state" "Rule.state" (defArgs s_Rule_state) (defBody s_Rule_state) (defScope s_Rule_state) (.none) kV_Rule_state dc_Rule_state pm_Rule_state an_Rule_state cd_Rule_state ct_Rule_state), sl_Rule_state⟩)
    (k_Rule_state : PySem.W.codeIn K cd_Rule_state "Rule.state" = true)
    (p_Rule_state : PySem.W.keepIn K (.ref f_Rule_state) = true)
    (a_Changer_init : PySem.W.findIn K (.ref c_Changer) "__init__" = some (some (.ref f_Changer_init)))
    (l_Changer_init : K.lookup f_Changer_init = some ⟨oc_Changer_init, od_Changer_init, .func (PySem.W.fnOf "__init__" "Changer.__init__" (defArgs s_Changer_init) (defBody s_Changer_init) (defScope s_Changer_init) (.ref dt_Changer_init) kV_Changer_init dc_Changer_init pm_Changer_init an_Changer_init cd_Changer_init ct_Changer_init), sl_Changer_init⟩)
    (q_Changer_init : K.lookup dt_Changer_init = some ⟨dc_Changer_init_, dd_Changer_init, .seq ([.int 0 dk_Changer_init_0] : List Value).toArray dn_Changer_init, ds_Changer_init⟩)
    (k_Changer_init : PySem.W.codeIn K cd_Changer_init "Changer.__init__" = true)
    (p_Changer_init : PySem.W.keepIn K (.ref f_Changer_init) = true)
    (a_Rule_init : PySem.W.findIn K (.ref c_Rule) "__init__" = some (some (.ref f_Rule_init)))
    (l_Rule_init : K.lookup f_Rule_init = some ⟨oc_Rule_init, od_Rule_init, .func (PySem.W.fnOf "__init__" "Rule.__init__" (defArgs s_Rule_init) (defBody s_Rule_init) (defScope s_Rule_init) (.none) kV_Rule_init dc_Rule_init pm_Rule_init an_Rule_init cd_Rule_init ct_Rule_init), sl_Rule_init⟩)
    (k_Rule_init : PySem.W.codeIn K cd_Rule_init "Rule.__init__" = true)
    (p_Rule_init : PySem.W.keepIn K (.ref f_Rule_init) = true)
    (a_Ways_is_state : PySem.W.findIn K (.ref c_Ways) "is_state" = some (some (.ref f_Ways_is_state)))
    (l_Ways_is_state : K.lookup f_Ways_is_state = some ⟨oc_Ways_is_state, od_Ways_is_state, .func (PySem.W.fnOf "is_state" "Ways.is_state" (defArgs s_Ways_is_state) (defBody s_Ways_is_state) (defScope s_Ways_is_state) (.none) kV_Ways_is_state dc_Ways_is_state pm_Ways_is_state an_Ways_is_state cd_Ways_is_state ct_Ways_is_state), sl_Ways_is_state⟩)
    (k_Ways_is_state : PySem.W.codeIn K cd_Ways_is_state "Ways.is_state" = true)
    (p_Ways_is_state : PySem.W.keepIn K (.ref f_Ways_is_state) = true)
    (a_Ways_init : PySem.W.findIn K (.ref c_Ways) "__init__" = some (some (.ref f_Ways_init)))
    (l_Ways_init : K.lookup f_Ways_init = some ⟨oc_Ways_init, od_Ways_init, .func (PySem.W.fnOf "__init__" "Ways.__init__" (defArgs s_Ways_init) (defBody s_Ways_init) (defScope s_Ways_init) (.none) kV_Ways_init dc_Ways_init pm_Ways_init an_Ways_init cd_Ways_init ct_Ways_init), sl_Ways_init⟩)
    (k_Ways_init : PySem.W.codeIn K cd_Ways_init "Ways.__init__" = true)
    (p_Ways_init : PySem.W.keepIn K (.ref f_Ways_init) = true)
    (a_is_from_one_to : PySem.W.nsIn K mainGlobals "is_from_one_to" = some (some (.ref f_is_from_one_to)))
    (l_is_from_one_to : K.lookup f_is_from_one_to = some ⟨oc_is_from_one_to, od_is_from_one_to, .func (PySem.W.fnOf "is_from_one_to" "is_from_one_to" (defArgs s_is_from_one_to) (defBody s_is_from_one_to) (defScope s_is_from_one_to) (.none) kV_is_from_one_to dc_is_from_one_to pm_is_from_one_to an_is_from_one_to cd_is_from_one_to ct_is_from_one_to), sl_is_from_one_to⟩)
    (k_is_from_one_to : PySem.W.codeIn K cd_is_from_one_to "is_from_one_to" = true)
    (p_is_from_one_to : PySem.W.keepIn K (.ref f_is_from_one_to) = true)
    (a_law_good : PySem.W.nsIn K mainGlobals "_law_good" = some (some (.ref f_law_good)))
    (l_law_good : K.lookup f_law_good = some ⟨oc_law_good, od_law_good, .func (PySem.W.fnOf "_law_good" "_law_good" (defArgs s_law_good) (defBody s_law_good) (defScope s_law_good) (.none) kV_law_good dc_law_good pm_law_good an_law_good cd_law_good ct_law_good), sl_law_good⟩)
    (k_law_good : PySem.W.codeIn K cd_law_good "_law_good" = true)
    (p_law_good : PySem.W.keepIn K (.ref f_law_good) = true)
    (a_law_plan : PySem.W.nsIn K mainGlobals "_law_plan" = some (some (.ref f_law_plan)))
    (l_law_plan : K.lookup f_law_plan = some ⟨oc_law_plan, od_law_plan, .func (PySem.W.fnOf "_law_plan" "_law_plan" (defArgs s_law_plan) (defBody s_law_plan) (defScope s_law_plan) (.none) kV_law_plan dc_law_plan pm_law_plan an_law_plan cd_law_plan ct_law_plan), sl_law_plan⟩)
    (k_law_plan : PySem.W.codeIn K cd_law_plan "_law_plan" = true)
    (p_law_plan : PySem.W.keepIn K (.ref f_law_plan) = true)
    (a_law_pay : PySem.W.nsIn K mainGlobals "_law_pay" = some (some (.ref f_law_pay)))
    (l_law_pay : K.lookup f_law_pay = some ⟨oc_law_pay, od_law_pay, .func (PySem.W.fnOf "_law_pay" "_law_pay" (defArgs s_law_pay) (defBody s_law_pay) (defScope s_law_pay) (.none) kV_law_pay dc_law_pay pm_law_pay an_law_pay cd_law_pay ct_law_pay), sl_law_pay⟩)
    (k_law_pay : PySem.W.codeIn K cd_law_pay "_law_pay" = true)
    (p_law_pay : PySem.W.keepIn K (.ref f_law_pay) = true)
    (a_law_is_wish : PySem.W.nsIn K mainGlobals "_law_is_wish" = some (some (.ref f_law_is_wish)))
    (l_law_is_wish : K.lookup f_law_is_wish = some ⟨oc_law_is_wish, od_law_is_wish, .func (PySem.W.fnOf "_law_is_wish" "_law_is_wish" (defArgs s_law_is_wish) (defBody s_law_is_wish) (defScope s_law_is_wish) (.none) kV_law_is_wish dc_law_is_wish pm_law_is_wish an_law_is_wish cd_law_is_wish ct_law_is_wish), sl_law_is_wish⟩)
    (k_law_is_wish : PySem.W.codeIn K cd_law_is_wish "_law_is_wish" = true)
    (p_law_is_wish : PySem.W.keepIn K (.ref f_law_is_wish) = true)
    (a_law_many : PySem.W.nsIn K mainGlobals "_law_many" = some (some (.ref f_law_many)))
    (l_law_many : K.lookup f_law_many = some ⟨oc_law_many, od_law_many, .func (PySem.W.fnOf "_law_many" "_law_many" (defArgs s_law_many) (defBody s_law_many) (defScope s_law_many) (.none) kV_law_many dc_law_many pm_law_many an_law_many cd_law_many ct_law_many), sl_law_many⟩)
    (k_law_many : PySem.W.codeIn K cd_law_many "_law_many" = true)
    (p_law_many : PySem.W.keepIn K (.ref f_law_many) = true)
    (a_law_mixed : PySem.W.nsIn K mainGlobals "_law_mixed" = some (some (.ref f_law_mixed)))
    (l_law_mixed : K.lookup f_law_mixed = some ⟨oc_law_mixed, od_law_mixed, .func (PySem.W.fnOf "_law_mixed" "_law_mixed" (defArgs s_law_mixed) (defBody s_law_mixed) (defScope s_law_mixed) (.none) kV_law_mixed dc_law_mixed pm_law_mixed an_law_mixed cd_law_mixed ct_law_mixed), sl_law_mixed⟩)
    (k_law_mixed : PySem.W.codeIn K cd_law_mixed "_law_mixed" = true)
    (p_law_mixed : PySem.W.keepIn K (.ref f_law_mixed) = true)
    (a_law_cell : PySem.W.nsIn K mainGlobals "_law_cell" = some (some (.ref f_law_cell)))
    (l_law_cell : K.lookup f_law_cell = some ⟨oc_law_cell, od_law_cell, .func (PySem.W.fnOf "_law_cell" "_law_cell" (defArgs s_law_cell) (defBody s_law_cell) (defScope s_law_cell) (.none) kV_law_cell dc_law_cell pm_law_cell an_law_cell cd_law_cell ct_law_cell), sl_law_cell⟩)
    (k_law_cell : PySem.W.codeIn K cd_law_cell "_law_cell" = true)
    (p_law_cell : PySem.W.keepIn K (.ref f_law_cell) = true)
    (ga_Bound_init : PySem.W.specialIn K (.ref c_Bound) "__getattribute__" = some (some (.builtin "type.__getattribute__")))
    (gr_Bound_init : PySem.W.readsIn K c_Bound (.type "type") = true)
    (gf_Bound_init : PySem.W.findCls K (.ref c_Bound) (.type "type") "__init__" = some (.val (.ref f_Rule_init)))
    (cg_Ways : PySem.W.plainGet K c_Ways Str.empty = true)
    (ch_Ways : PySem.W.hasDictIn K c_Ways = true)
    (co_Ways : PySem.W.plainOver K c_Ways = true)
    (cs_Ways : PySem.W.findIn K (.ref c_Ways) "__setattr__" = some (some (.builtin "object.__setattr__")))
    (mm_Ways : PySem.W.makesIn K c_Ways = true)
    (mi_Ways : PySem.W.findIn K (.ref c_Ways) "__init__" = some (some (.ref f_Ways_init)))
    (mf_Ways : PySem.W.isFn K (.ref f_Ways_init) = true)
    (mp_Ways : PySem.W.keepIn K (.ref c_Ways) = true)
    (na_Ways_many : PySem.W.findIn K (.ref c_Ways) "many" = some none)
    (na_Ways_toll : PySem.W.findIn K (.ref c_Ways) "toll" = some none)
    (ea_Ways_is_state : PySem.W.findIn K (.ref c_Ways) "is_state" = some (some (.ref f_Ways_is_state)))
    (ef_Ways_is_state : PySem.W.isFn K (.ref f_Ways_is_state) = true)
    (ea_Ways_is_wish : PySem.W.findIn K (.ref c_Ways) "is_wish" = some (some (.ref f_Ways_is_wish)))
    (ef_Ways_is_wish : PySem.W.isFn K (.ref f_Ways_is_wish) = true)
    (ea_Ways_moves : PySem.W.findIn K (.ref c_Ways) "moves" = some (some (.ref f_Ways_moves)))
    (ef_Ways_moves : PySem.W.isFn K (.ref f_Ways_moves) = true)
    (ea_Ways_price : PySem.W.findIn K (.ref c_Ways) "price" = some (some (.ref f_Ways_price)))
    (ef_Ways_price : PySem.W.isFn K (.ref f_Ways_price) = true)
    (ea_Ways_priced : PySem.W.findIn K (.ref c_Ways) "priced" = some (some (.ref f_World_priced)))
    (ef_Ways_priced : PySem.W.isFn K (.ref f_World_priced) = true)
    (cg_Changer : PySem.W.plainGet K c_Changer Str.empty = true)
    (ch_Changer : PySem.W.hasDictIn K c_Changer = true)
    (co_Changer : PySem.W.plainOver K c_Changer = true)
    (cs_Changer : PySem.W.findIn K (.ref c_Changer) "__setattr__" = some (some (.builtin "object.__setattr__")))
    (mm_Changer : PySem.W.makesIn K c_Changer = true)
    (mi_Changer : PySem.W.findIn K (.ref c_Changer) "__init__" = some (some (.ref f_Changer_init)))
    (mf_Changer : PySem.W.isFn K (.ref f_Changer_init) = true)
    (mp_Changer : PySem.W.keepIn K (.ref c_Changer) = true)
    (na_Changer_reckoned : PySem.W.findIn K (.ref c_Changer) "reckoned" = some none)
    (na_Changer_spent : PySem.W.findIn K (.ref c_Changer) "spent" = some none)
    (na_Changer_standing : PySem.W.findIn K (.ref c_Changer) "standing" = some none)
    (na_Changer_world : PySem.W.findIn K (.ref c_Changer) "world" = some none)
    (ea_Changer_charged : PySem.W.findIn K (.ref c_Changer) "charged" = some (some (.ref f_Changer_charged)))
    (ef_Changer_charged : PySem.W.isFn K (.ref f_Changer_charged) = true)
    (ea_Changer_learn : PySem.W.findIn K (.ref c_Changer) "learn" = some (some (.ref f_Changer_learn)))
    (ef_Changer_learn : PySem.W.isFn K (.ref f_Changer_learn) = true)
    (ea_Changer_pay : PySem.W.findIn K (.ref c_Changer) "pay" = some (some (.ref f_Rule_pay)))
    (ef_Changer_pay : PySem.W.isFn K (.ref f_Rule_pay) = true)
    (ea_Changer_price_to : PySem.W.findIn K (.ref c_Changer) "price_to" = some (some (.ref f_Rule_price_to)))
    (ef_Changer_price_to : PySem.W.isFn K (.ref f_Rule_price_to) = true)
    (ea_Changer_state : PySem.W.findIn K (.ref c_Changer) "state" = some (some (.ref f_Rule_state)))
    (ef_Changer_state : PySem.W.isFn K (.ref f_Rule_state) = true)
    (ea_Changer_target : PySem.W.findIn K (.ref c_Changer) "target" = some (some (.ref f_Changer_target)))
    (ef_Changer_target : PySem.W.isFn K (.ref f_Changer_target) = true)
    (z_all : PySem.W.nsIn K mainGlobals "all" = some none)
    (z_bool : PySem.W.nsIn K mainGlobals "bool" = some none)
    (z_int : PySem.W.nsIn K mainGlobals "int" = some none)
    (z_isinstance : PySem.W.nsIn K mainGlobals "isinstance" = some none)
    (z_len : PySem.W.nsIn K mainGlobals "len" = some none)
    (z_list : PySem.W.nsIn K mainGlobals "list" = some none)
    (z_min : PySem.W.nsIn K mainGlobals "min" = some none)
    (z_range : PySem.W.nsIn K mainGlobals "range" = some none)
    (z_reversed : PySem.W.nsIn K mainGlobals "reversed" = some none)
    (z_set : PySem.W.nsIn K mainGlobals "set" = some none)
    (z_sorted : PySem.W.nsIn K mainGlobals "sorted" = some none)
    (z_str : PySem.W.nsIn K mainGlobals "str" = some none)
    (z_tuple : PySem.W.nsIn K mainGlobals "tuple" = some none)
    (z_zip : PySem.W.nsIn K mainGlobals "zip" = some none)
    (zk_MOST_STATES : PySem.W.nsIn K mainGlobals "MOST_STATES" = some (some (.int 60 t_MOST_STATES)))
    (nt : PySem.W.noTabs K = true)
    (ntb : tb_best ≠ tb_enemy_of_changer) :
    ∃ (fd : FuncData) (cps : List (Addr × Addr)) (sp : Sp), PySem.W.noTabs K = true ∧ (∀ q ∈ cps, PySem.W.codeHdIn K q.1 q.2 = true ∧ ts.contains q.2 = true) ∧ (∀ (s : Shared) (v : Value), BindsTo s fd ⟨[v], []⟩ [("_law_script", v)]) ∧ (∀ (H : Hp) (a : Addr) (ns : List Int), ns.length ≤ 63 → (∀ z ∈ ns, ib z ≤ 1048576) → (∀ q ∈ cps, H q.2 = some (.tbl #[])) → SqL K H a (ns.map V.int) → sp [.ref a] H (fun v _ => v = .bl true) fun _ _ _ => False) ∧ ∀ base : Heap, K.In base → base.Ns mainGlobals mg → FnOk l.prog w K mg base (CXU l.prog w) 14 fa fd ["_law_script"] sp := by
  have e := hfa.symm.trans (PySem.W.mg_of X G a_law)
  cases e
  have F_law := fun_mk (st := s_law) l_law k_law p_law
  have F_law_same := fun_mk (st := s_law_same) l_law_same k_law_same p_law_same
  have F_law_whole := fun_mk (st := s_law_whole) l_law_whole k_law_whole p_law_whole
  have F_law_all_same := fun_mk (st := s_law_all_same) l_law_all_same k_law_all_same p_law_all_same
  have F_enemy_of_changer := fun_mk (st := s_enemy_of_changer) l_enemy_of_changer k_enemy_of_changer p_enemy_of_changer
  have F_best := fun_mk (st := s_best) l_best k_best p_best
  have F_traced_rows := fun_mk (st := s_traced_rows) l_traced_rows k_traced_rows p_traced_rows
  have F_reached := fun_mk (st := s_reached) l_reached k_reached p_reached
  have F_Ways_moves := fun_mk (st := s_Ways_moves) l_Ways_moves k_Ways_moves p_Ways_moves
  have F_World_priced := fun_mk (st := s_World_priced) l_World_priced k_World_priced p_World_priced
  have F_Ways_price := fun_mk (st := s_Ways_price) l_Ways_price k_Ways_price p_Ways_price
  have F_wishes_against := fun_mk (st := s_wishes_against) l_wishes_against k_wishes_against p_wishes_against
  have F_Rule_pay := fun_mk (st := s_Rule_pay) l_Rule_pay k_Rule_pay p_Rule_pay
  have F_Changer_learn := fun_mk (st := s_Changer_learn) l_Changer_learn k_Changer_learn p_Changer_learn
  have F_Changer_charged := fun_mk (st := s_Changer_charged) l_Changer_charged k_Changer_charged p_Changer_charged
  have F_Rule_price_to := fun_mk (st := s_Rule_price_to) l_Rule_price_to k_Rule_price_to p_Rule_price_to
  have F_Changer_target := fun_mk (st := s_Changer_target) l_Changer_target k_Changer_target p_Changer_target
  have F_Ways_is_wish := fun_mk (st := s_Ways_is_wish) l_Ways_is_wish k_Ways_is_wish p_Ways_is_wish
  have F_is_amount := fun_mk (st := s_is_amount) l_is_amount k_is_amount p_is_amount
  have F_is_whole_number := fun_mk (st := s_is_whole_number) l_is_whole_number k_is_whole_number p_is_whole_number
  have F_Rule_state := fun_mk (st := s_Rule_state) l_Rule_state k_Rule_state p_Rule_state
  have F_Changer_init := funD_mk (st := s_Changer_init) (ds := [.int 0 dk_Changer_init_0]) l_Changer_init k_Changer_init p_Changer_init q_Changer_init
  have F_Rule_init := fun_mk (st := s_Rule_init) l_Rule_init k_Rule_init p_Rule_init
  have F_Ways_is_state := fun_mk (st := s_Ways_is_state) l_Ways_is_state k_Ways_is_state p_Ways_is_state
  have F_Ways_init := fun_mk (st := s_Ways_init) l_Ways_init k_Ways_init p_Ways_init
  have F_is_from_one_to := fun_mk (st := s_is_from_one_to) l_is_from_one_to k_is_from_one_to p_is_from_one_to
  have F_law_good := fun_mk (st := s_law_good) l_law_good k_law_good p_law_good
  have F_law_plan := fun_mk (st := s_law_plan) l_law_plan k_law_plan p_law_plan
  have F_law_pay := fun_mk (st := s_law_pay) l_law_pay k_law_pay p_law_pay
  have F_law_is_wish := fun_mk (st := s_law_is_wish) l_law_is_wish k_law_is_wish p_law_is_wish
  have F_law_many := fun_mk (st := s_law_many) l_law_many k_law_many p_law_many
  have F_law_mixed := fun_mk (st := s_law_mixed) l_law_mixed k_law_mixed p_law_mixed
  have F_law_cell := fun_mk (st := s_law_cell) l_law_cell k_law_cell p_law_cell
  have b_law := F_law.binds (ps := ["_law_script"]) fun _ _ _ _ _ _ us hl => match us, hl with | [_], _ => rfl
  have b_law_same := F_law_same.binds (ps := ["_law_found", "_law_due"]) fun _ _ _ _ _ _ us hl => match us, hl with | [_, _], _ => rfl
  have b_law_whole := F_law_whole.binds (ps := ["_law_found"]) fun _ _ _ _ _ _ us hl => match us, hl with | [_], _ => rfl
  have b_law_all_same := F_law_all_same.binds (ps := ["_law_found", "_law_due"]) fun _ _ _ _ _ _ us hl => match us, hl with | [_, _], _ => rfl
  have b_enemy_of_changer := F_enemy_of_changer.binds (ps := ["n", "toll", "many"]) fun _ _ _ _ _ _ us hl => match us, hl with | [_, _, _], _ => rfl
  have b_best := F_best.binds (ps := ["world", "start", "wishes"]) fun _ _ _ _ _ _ us hl => match us, hl with | [_, _, _], _ => rfl
  have b_traced_rows := F_traced_rows.binds (ps := ["world", "start", "wishes"]) fun _ _ _ _ _ _ us hl => match us, hl with | [_, _, _], _ => rfl
  have b_reached := F_reached.binds (ps := ["world", "row", "wish"]) fun _ _ _ _ _ _ us hl => match us, hl with | [_, _, _], _ => rfl
  have b_Ways_moves := F_Ways_moves.binds (ps := ["self", "before", "wish"]) fun _ _ _ _ _ _ us hl => match us, hl with | [_, _, _], _ => rfl
  have b_World_priced := F_World_priced.binds (ps := ["self", "before", "wish", "states"]) fun _ _ _ _ _ _ us hl => match us, hl with | [_, _, _, _], _ => rfl
  have b_Ways_price := F_Ways_price.binds (ps := ["self", "before", "wish", "after"]) fun _ _ _ _ _ _ us hl => match us, hl with | [_, _, _, _], _ => rfl
  have b_wishes_against := F_wishes_against.binds (ps := ["rule", "many", "worst"]) fun _ _ _ _ _ _ us hl => match us, hl with | [_, _, _], _ => rfl
  have b_Rule_pay := F_Rule_pay.binds (ps := ["self", "wish"]) fun _ _ _ _ _ _ us hl => match us, hl with | [_, _], _ => rfl
  have b_Changer_learn := F_Changer_learn.binds (ps := ["self", "wish"]) fun _ _ _ _ _ _ us hl => match us, hl with | [_, _], _ => rfl
  have b_Changer_charged := F_Changer_charged.binds (ps := ["self", "charges"]) fun _ _ _ _ _ _ us hl => match us, hl with | [_, _], _ => rfl
  have b_Rule_price_to := F_Rule_price_to.binds (ps := ["self", "wish", "after"]) fun _ _ _ _ _ _ us hl => match us, hl with | [_, _, _], _ => rfl
  have b_Changer_target := F_Changer_target.binds (ps := ["self", "wish"]) fun _ _ _ _ _ _ us hl => match us, hl with | [_, _], _ => rfl
  have b_Ways_is_wish := F_Ways_is_wish.binds (ps := ["self", "thing"]) fun _ _ _ _ _ _ us hl => match us, hl with | [_, _], _ => rfl
  have b_is_amount := F_is_amount.binds (ps := ["thing"]) fun _ _ _ _ _ _ us hl => match us, hl with | [_], _ => rfl
  have b_is_whole_number := F_is_whole_number.binds (ps := ["thing"]) fun _ _ _ _ _ _ us hl => match us, hl with | [_], _ => rfl
  have b_Rule_state := F_Rule_state.binds (ps := ["self"]) fun _ _ _ _ _ _ us hl => match us, hl with | [_], _ => rfl
  have b1_Changer_init := F_Changer_init.binds (ps := ["self", "many", "toll", "start"]) (es := [.int 0 dk_Changer_init_0]) fun _ _ _ _ _ _ _ us hl => match us, Nat.add_right_cancel (m := 1) (k := 3) (List.length_append.symm.trans hl) with | [_, _, _], _ => ⟨_, rfl, rfl⟩
  have b_Changer_init := F_Changer_init.binds (ps := ["self", "many", "toll", "start"]) (es := []) fun _ _ _ _ _ _ _ us hl => match us, hl with | [_, _, _, _], _ => ⟨_, rfl, rfl⟩
  have b_Rule_init := F_Rule_init.binds (ps := ["self", "world", "start"]) fun _ _ _ _ _ _ us hl => match us, hl with | [_, _, _], _ => rfl
  have b_Ways_is_state := F_Ways_is_state.binds (ps := ["self", "thing"]) fun _ _ _ _ _ _ us hl => match us, hl with | [_, _], _ => rfl
  have b_Ways_init := F_Ways_init.binds (ps := ["self", "many", "toll"]) fun _ _ _ _ _ _ us hl => match us, hl with | [_, _, _], _ => rfl
  have b_is_from_one_to := F_is_from_one_to.binds (ps := ["thing", "most"]) fun _ _ _ _ _ _ us hl => match us, hl with | [_, _], _ => rfl
  have b_law_good := F_law_good.binds (ps := ["_law_found", "_law_n", "_law_toll", "_law_many_here"]) fun _ _ _ _ _ _ us hl => match us, hl with | [_, _, _, _], _ => rfl
  have b_law_plan := F_law_plan.binds (ps := ["_law_n", "_law_toll", "_law_wishes", "_law_way"]) fun _ _ _ _ _ _ us hl => match us, hl with | [_, _, _, _], _ => rfl
  have b_law_pay := F_law_pay.binds (ps := ["_law_n", "_law_toll", "_law_wishes"]) fun _ _ _ _ _ _ us hl => match us, hl with | [_, _, _], _ => rfl
  have b_law_is_wish := F_law_is_wish.binds (ps := ["_law_wish", "_law_many_here"]) fun _ _ _ _ _ _ us hl => match us, hl with | [_, _], _ => rfl
  have b_law_many := F_law_many.binds (ps := ["_law_cell_here"]) fun _ _ _ _ _ _ us hl => match us, hl with | [_], _ => rfl
  have b_law_mixed := F_law_mixed.binds (ps := ["_law_cell_here", "_law_k"]) fun _ _ _ _ _ _ us hl => match us, hl with | [_, _], _ => rfl
  have b_law_cell := F_law_cell.binds (ps := ["_law_script", "_law_k"]) fun _ _ _ _ _ _ us hl => match us, hl with | [_, _], _ => rfl
  have T : Txt K mg ⟨fa, _, f_law_same, _, f_law_whole, _, f_law_all_same, _, f_enemy_of_changer, _, ck_enemy_of_changer, tb_enemy_of_changer, f_best, _, ck_best, tb_best, f_traced_rows, _, f_reached, _, f_Ways_moves, _, f_World_priced, _, f_Ways_price, _, f_wishes_against, _, f_Rule_pay, _, f_Changer_learn, _, f_Changer_charged, _, f_Rule_price_to, _, f_Changer_target, _, f_Ways_is_wish, _, f_is_amount, _, f_is_whole_number, _, f_Rule_state, _, f_Changer_init, _, _, f_Rule_init, _, f_Ways_is_state, _, f_Ways_init, _, f_is_from_one_to, _, f_law_good, _, f_law_plan, _, f_law_pay, _, f_law_is_wish, _, f_law_many, _, f_law_mixed, _, f_law_cell, _, c_World, c_Rule, c_Bound, c_Ways, c_Changer, _⟩ := ⟨F_law, b_law, PySem.W.mg_of X G a_law, F_law_same, b_law_same, PySem.W.mg_of X G a_law_same, F_law_whole, b_law_whole, PySem.W.mg_of X G a_law_whole, F_law_all_same, b_law_all_same, PySem.W.mg_of X G a_law_all_same, F_enemy_of_changer, b_enemy_of_changer, PySem.W.mg_of X G a_enemy_of_changer, rfl, hd_enemy_of_changer, F_best, b_best, ntb, PySem.W.mg_of X G a_best, rfl, hd_best, F_traced_rows, b_traced_rows, PySem.W.mg_of X G a_traced_rows, F_reached, b_reached, PySem.W.mg_of X G a_reached, F_Ways_moves, b_Ways_moves, F_World_priced, b_World_priced, F_Ways_price, b_Ways_price, F_wishes_against, b_wishes_against, PySem.W.mg_of X G a_wishes_against, F_Rule_pay, b_Rule_pay, F_Changer_learn, b_Changer_learn, F_Changer_charged, b_Changer_charged, F_Rule_price_to, b_Rule_price_to, F_Changer_target, b_Changer_target, F_Ways_is_wish, b_Ways_is_wish, F_is_amount, b_is_amount, PySem.W.mg_of X G a_is_amount, F_is_whole_number, b_is_whole_number, PySem.W.mg_of X G a_is_whole_number, F_Rule_state, b_Rule_state, F_Changer_init, b_Changer_init, b1_Changer_init, (.cons ⟨_, rfl⟩ .nil), F_Rule_init, b_Rule_init, F_Ways_is_state, b_Ways_is_state, F_Ways_init, b_Ways_init, F_is_from_one_to, b_is_from_one_to, PySem.W.mg_of X G a_is_from_one_to, F_law_good, b_law_good, PySem.W.mg_of X G a_law_good, F_law_plan, b_law_plan, PySem.W.mg_of X G a_law_plan, F_law_pay, b_law_pay, PySem.W.mg_of X G a_law_pay, F_law_is_wish, b_law_is_wish, PySem.W.mg_of X G a_law_is_wish, F_law_many, b_law_many, PySem.W.mg_of X G a_law_many, F_law_mixed, b_law_mixed, PySem.W.mg_of X G a_law_mixed, F_law_cell, b_law_cell, PySem.W.mg_of X G a_law_cell, PySem.W.mg_of X G aC_Bound, ⟨ga_Bound_init, gr_Bound_init, gf_Bound_init, p_Rule_init⟩, PySem.W.mg_of X G aC_Ways, ⟨cg_Ways, ch_Ways, co_Ways, cs_Ways⟩, ⟨mm_Ways, mi_Ways, mf_Ways, mp_Ways⟩, na_Ways_many, na_Ways_toll, ⟨ea_Ways_is_state, ef_Ways_is_state, p_Ways_is_state⟩, ⟨ea_Ways_is_wish, ef_Ways_is_wish, p_Ways_is_wish⟩, ⟨ea_Ways_moves, ef_Ways_moves, p_Ways_moves⟩, ⟨ea_Ways_price, ef_Ways_price, p_Ways_price⟩, ⟨ea_Ways_priced, ef_Ways_priced, p_World_priced⟩, PySem.W.mg_of X G aC_Changer, ⟨cg_Changer, ch_Changer, co_Changer, cs_Changer⟩, ⟨mm_Changer, mi_Changer, mf_Changer, mp_Changer⟩, na_Changer_reckoned, na_Changer_spent, na_Changer_standing, na_Changer_world, ⟨ea_Changer_charged, ef_Changer_charged, p_Changer_charged⟩, ⟨ea_Changer_learn, ef_Changer_learn, p_Changer_learn⟩, ⟨ea_Changer_pay, ef_Changer_pay, p_Rule_pay⟩, ⟨ea_Changer_price_to, ef_Changer_price_to, p_Rule_price_to⟩, ⟨ea_Changer_state, ef_Changer_state, p_Rule_state⟩, ⟨ea_Changer_target, ef_Changer_target, p_Changer_target⟩, PySem.W.mg_none_of X G z_all, PySem.W.mg_none_of X G z_bool, PySem.W.mg_none_of X G z_int, PySem.W.mg_none_of X G z_isinstance, PySem.W.mg_none_of X G z_len, PySem.W.mg_none_of X G z_list, PySem.W.mg_none_of X G z_min, PySem.W.mg_none_of X G z_range, PySem.W.mg_none_of X G z_reversed, PySem.W.mg_none_of X G z_set, PySem.W.mg_none_of X G z_sorted, PySem.W.mg_none_of X G z_str, PySem.W.mg_none_of X G z_tuple, PySem.W.mg_none_of X G z_zip, PySem.W.mg_of X G zk_MOST_STATES⟩
  exact ⟨_, [(ck_best, tb_best), (ck_enemy_of_changer, tb_enemy_of_changer)], _, nt, fun q hq => (List.mem_cons.mp hq).elim (fun h => by rw [h]; exact ⟨hd_best, tc_best⟩) (fun h => by rw [List.mem_singleton.mp h]; exact ⟨hd_enemy_of_changer, tc_enemy_of_changer⟩), fun s v => .of_eq rfl, fun H p ns h1 h2 h3 h4 => ⟨p, ns, rfl, h4, h1, h2, h3 _ (.head _), h3 _ (.tail _ (.head _)), fun _ => rfl⟩, fun base _ _ => ok_law T⟩
theorem walk {l : PySem.W.OpenLaw} {q : Program} {loose : List Str} {XP : (Str → Option Value) → Heap → Prop} {YP : World → Heap → Prop} {d : DefRec} {K : Params → PySem.W.Frag} {ts : List Addr} (hn : l.most = some 63) (hdf : d.params.defaults = [])
    (hY : ∀ (w : World) (h : Heap), YP w h → (K w.params).In h) (hY2 : ∀ (w : World) (h : Heap), YP w h → ∀ P ∈ ts, h.get? P = some (PySem.W.tabObj #[]))
    (F : ∀ (w : World) (mg : Str → Option Value) (fa : Addr) (h : Heap), (K w.params).In h → h.Ns mainGlobals mg → mg d.name = some (.ref fa) →
      ∃ (fd : FuncData) (cps : List (Addr × Addr)) (sp : Sp), PySem.W.noTabs (K w.params) = true ∧ (∀ q ∈ cps, PySem.W.codeHdIn (K w.params) q.1 q.2 = true ∧ ts.contains q.2 = true) ∧ (∀ (s : Shared) (u : Value), BindsTo s fd ⟨[u], []⟩ [("_law_script", u)]) ∧
        (∀ (H : Hp) (a : Addr) (ns : List Int), ns.length ≤ 63 → (∀ z ∈ ns, ib z ≤ 1048576) → (∀ q ∈ cps, H q.2 = some (.tbl #[])) → SqL (K w.params) H a (ns.map V.int) → sp [.ref a] H (fun v _ => v = .bl true) fun _ _ _ => False) ∧
        ∀ base : Heap, (K w.params).In base → base.Ns mainGlobals mg → FnOk l.prog w (K w.params) mg base (CXU l.prog w) 14 fa fd ["_law_script"] sp) :
    PySem.W.WalkO q loose XP YP l.row.toRowW d [] (fun f vs => PySem.call f vs) :=
  L2.walk_ofT (n := 63) (k := 14) (x := "_law_script") (CX := fun w => CXU l.prog w) hn (by decide) hdf ⟨rfl, by decide, by decide, rfl⟩ hY hY2 F noneU
end Q
namespace PySem.W.Fast
def tw16524503450419316392 : Unit := ()
def tw1018932562132271391 : Unit := ()
def tw7841313671453176826 : Unit := ()
def tw768839832216185779 : Unit := ()
def tw3121872028724471378 : Unit := ()
def tw13642958657080482605 : Unit := ()
def tw4641885963627226794 : Unit := ()
def tw9930382521034725808 : Unit := ()
def tw13236780823762730265 : Unit := ()
def tw1000988607557176955 : Unit := ()
def tw15637110939478908170 : Unit := ()
def tw11164773784223610208 : Unit := ()
end PySem.W.Fast
open PySem PySem.W PyProof.Rows
set_option maxRecDepth 100000 in
set_option maxHeartbeats 0 in
theorem PySem.Challenge.cw_lateknow_k74_enemy_of_changer_holds : PySem.Challenge.rw_lateknow_k74_enemy_of_changer.Holds := by
  w_on; o_law; k_head; (case hw => w_witness2)
  k_fill
  refine Q.walk (l := PySem.Challenge.rw_lateknow_k74_enemy_of_changer) rfl rfl (fun w h Y => PySem.W.km_in_of Y) (fun w h Y => PySem.W.km_tabs_of Y) ?F
  case F =>
    intro w mg fa h KX G hmg
    refine' Q.all_mk KX G hmg ?aC_World ?aC_Rule ?aC_Bound ?aC_Ways ?aC_Changer ?a_law ?l_law ?k_law ?p_law ?a_law_same ?l_law_same ?k_law_same ?p_law_same ?a_law_whole ?l_law_whole ?k_law_whole ?p_law_whole ?a_law_all_same ?l_law_all_same ?k_law_all_same ?p_law_all_same ?a_enemy_of_changer ?l_enemy_of_changer ?lc_enemy_of_changer ?pt_enemy_of_changer ?hd_enemy_of_changer ?tc_enemy_of_changer ?k_enemy_of_changer ?p_enemy_of_changer ?a_best ?l_best ?lc_best ?pt_best ?hd_best ?tc_best ?k_best ?p_best ?a_traced_rows ?l_traced_rows ?k_traced_rows ?p_traced_rows ?a_reached ?l_reached ?k_reached ?p_reached ?a_Ways_moves ?l_Ways_moves ?k_Ways_moves ?p_Ways_moves ?a_World_priced ?l_World_priced ?k_World_priced ?p_World_priced ?a_Ways_price ?l_Ways_price ?k_Ways_price ?p_Ways_price ?a_wishes_against ?l_wishes_against ?k_wishes_against ?p_wishes_against ?a_Rule_pay ?l_Rule_pay ?k_Rule_pay ?p_Rule_pay ?a_Changer_learn ?l_Changer_learn ?k_Changer_learn ?p_Changer_learn ?a_Changer_charged ?l_Changer_charged ?k_Changer_charged ?p_Changer_charged ?a_Rule_price_to ?l_Rule_price_to ?k_Rule_price_to ?p_Rule_price_to ?a_Changer_target ?l_Changer_target ?k_Changer_target ?p_Changer_target ?a_Ways_is_wish ?l_Ways_is_wish ?k_Ways_is_wish ?p_Ways_is_wish ?a_is_amount ?l_is_amount ?k_is_amount ?p_is_amount ?a_is_whole_number ?l_is_whole_number ?k_is_whole_number ?p_is_whole_number ?a_Rule_state ?l_Rule_state ?k_Rule_state ?p_Rule_state ?a_Changer_init ?l_Changer_init ?q_Changer_init ?k_Changer_init ?p_Changer_init ?a_Rule_init ?l_Rule_init ?k_Rule_init ?p_Rule_init ?a_Ways_is_state ?l_Ways_is_state ?k_Ways_is_state ?p_Ways_is_state ?a_Ways_init ?l_Ways_init ?k_Ways_init ?p_Ways_init ?a_is_from_one_to ?l_is_from_one_to ?k_is_from_one_to ?p_is_from_one_to ?a_law_good ?l_law_good ?k_law_good ?p_law_good ?a_law_plan ?l_law_plan ?k_law_plan ?p_law_plan ?a_law_pay ?l_law_pay ?k_law_pay ?p_law_pay ?a_law_is_wish ?l_law_is_wish ?k_law_is_wish ?p_law_is_wish ?a_law_many ?l_law_many ?k_law_many ?p_law_many ?a_law_mixed ?l_law_mixed ?k_law_mixed ?p_law_mixed ?a_law_cell ?l_law_cell ?k_law_cell ?p_law_cell ?ga_Bound_init ?gr_Bound_init ?gf_Bound_init ?cg_Ways ?ch_Ways ?co_Ways ?cs_Ways ?mm_Ways ?mi_Ways ?mf_Ways ?mp_Ways ?na_Ways_many ?na_Ways_toll ?ea_Ways_is_state ?ef_Ways_is_state ?ea_Ways_is_wish ?ef_Ways_is_wish ?ea_Ways_moves ?ef_Ways_moves ?ea_Ways_price ?ef_Ways_price ?ea_Ways_priced ?ef_Ways_priced ?cg_Changer ?ch_Changer ?co_Changer ?cs_Changer ?mm_Changer ?mi_Changer ?mf_Changer ?mp_Changer ?na_Changer_reckoned ?na_Changer_spent ?na_Changer_standing ?na_Changer_world ?ea_Changer_charged ?ef_Changer_charged ?ea_Changer_learn ?ef_Changer_learn ?ea_Changer_pay ?ef_Changer_pay ?ea_Changer_price_to ?ef_Changer_price_to ?ea_Changer_state ?ef_Changer_state ?ea_Changer_target ?ef_Changer_target ?z_all ?z_bool ?z_int ?z_isinstance ?z_len ?z_list ?z_min ?z_range ?z_reversed ?z_set ?z_sorted ?z_str ?z_tuple ?z_zip ?zk_MOST_STATES ?nt ?ntb
    (case aC_World => k_is)
    (case aC_Rule => k_is)
    (case aC_Bound => k_is)
    (case aC_Ways => k_is)
    (case aC_Changer => k_is)
    (case a_law => k_is)
    (case l_law => k_is)
    (case k_law => k_is)
    (case p_law => k_is)
    (case a_law_same => k_is)
    (case l_law_same => k_is)
    (case k_law_same => k_is)
    (case p_law_same => k_is)
    (case a_law_whole => k_is)
    (case l_law_whole => k_is)
    (case k_law_whole => k_is)
    (case p_law_whole => k_is)
    (case a_law_all_same => k_is)
    (case l_law_all_same => k_is)
    (case k_law_all_same => k_is)
    (case p_law_all_same => k_is)
    (case a_enemy_of_changer => k_is)
    (case l_enemy_of_changer => k_is)
    (case lc_enemy_of_changer => k_is)
    (case pt_enemy_of_changer => exact rfl)
    (case hd_enemy_of_changer => kernel_rfl)
    (case tc_enemy_of_changer => exact rfl)
    (case k_enemy_of_changer => k_is)
    (case p_enemy_of_changer => k_is)
    (case a_best => k_is)
    (case l_best => k_is)
    (case lc_best => k_is)
    (case pt_best => exact rfl)
    (case hd_best => kernel_rfl)
    (case tc_best => exact rfl)
    (case k_best => k_is)
    (case p_best => k_is)
    (case a_traced_rows => k_is)
    (case l_traced_rows => k_is)
    (case k_traced_rows => k_is)
    (case p_traced_rows => k_is)
    (case a_reached => k_is)
    (case l_reached => k_is)
    (case k_reached => k_is)
    (case p_reached => k_is)
    (case a_Ways_moves => k_is)
    (case l_Ways_moves => k_is)
    (case k_Ways_moves => k_is)
    (case p_Ways_moves => k_is)
    (case a_World_priced => k_is)
    (case l_World_priced => k_is)
    (case k_World_priced => k_is)
    (case p_World_priced => k_is)
    (case a_Ways_price => k_is)
    (case l_Ways_price => k_is)
    (case k_Ways_price => k_is)
    (case p_Ways_price => k_is)
    (case a_wishes_against => k_is)
    (case l_wishes_against => k_is)
    (case k_wishes_against => k_is)
    (case p_wishes_against => k_is)
    (case a_Rule_pay => k_is)
    (case l_Rule_pay => k_is)
    (case k_Rule_pay => k_is)
    (case p_Rule_pay => k_is)
    (case a_Changer_learn => k_is)
    (case l_Changer_learn => k_is)
    (case k_Changer_learn => k_is)
    (case p_Changer_learn => k_is)
    (case a_Changer_charged => k_is)
    (case l_Changer_charged => k_is)
    (case k_Changer_charged => k_is)
    (case p_Changer_charged => k_is)
    (case a_Rule_price_to => k_is)
    (case l_Rule_price_to => k_is)
    (case k_Rule_price_to => k_is)
    (case p_Rule_price_to => k_is)
    (case a_Changer_target => k_is)
    (case l_Changer_target => k_is)
    (case k_Changer_target => k_is)
    (case p_Changer_target => k_is)
    (case a_Ways_is_wish => k_is)
    (case l_Ways_is_wish => k_is)
    (case k_Ways_is_wish => k_is)
    (case p_Ways_is_wish => k_is)
    (case a_is_amount => k_is)
    (case l_is_amount => k_is)
    (case k_is_amount => k_is)
    (case p_is_amount => k_is)
    (case a_is_whole_number => k_is)
    (case l_is_whole_number => k_is)
    (case k_is_whole_number => k_is)
    (case p_is_whole_number => k_is)
    (case a_Rule_state => k_is)
    (case l_Rule_state => k_is)
    (case k_Rule_state => k_is)
    (case p_Rule_state => k_is)
    (case a_Changer_init => k_is)
    (case l_Changer_init => k_is)
    (case q_Changer_init => k_is)
    (case k_Changer_init => k_is)
    (case p_Changer_init => k_is)
    (case a_Rule_init => k_is)
    (case l_Rule_init => k_is)
    (case k_Rule_init => k_is)
    (case p_Rule_init => k_is)
    (case a_Ways_is_state => k_is)
    (case l_Ways_is_state => k_is)
    (case k_Ways_is_state => k_is)
    (case p_Ways_is_state => k_is)
    (case a_Ways_init => k_is)
    (case l_Ways_init => k_is)
    (case k_Ways_init => k_is)
    (case p_Ways_init => k_is)
    (case a_is_from_one_to => k_is)
    (case l_is_from_one_to => k_is)
    (case k_is_from_one_to => k_is)
    (case p_is_from_one_to => k_is)
    (case a_law_good => k_is)
    (case l_law_good => k_is)
    (case k_law_good => k_is)
    (case p_law_good => k_is)
    (case a_law_plan => k_is)
    (case l_law_plan => k_is)
    (case k_law_plan => k_is)
    (case p_law_plan => k_is)
    (case a_law_pay => k_is)
    (case l_law_pay => k_is)
    (case k_law_pay => k_is)
    (case p_law_pay => k_is)
    (case a_law_is_wish => k_is)
    (case l_law_is_wish => k_is)
    (case k_law_is_wish => k_is)
    (case p_law_is_wish => k_is)
    (case a_law_many => k_is)
    (case l_law_many => k_is)
    (case k_law_many => k_is)
    (case p_law_many => k_is)
    (case a_law_mixed => k_is)
    (case l_law_mixed => k_is)
    (case k_law_mixed => k_is)
    (case p_law_mixed => k_is)
    (case a_law_cell => k_is)
    (case l_law_cell => k_is)
    (case k_law_cell => k_is)
    (case p_law_cell => k_is)
    (case ga_Bound_init => k_is)
    (case gr_Bound_init => k_is)
    (case gf_Bound_init => k_is)
    (case cg_Ways => k_is)
    (case ch_Ways => k_is)
    (case co_Ways => k_is)
    (case cs_Ways => k_is)
    (case mm_Ways => k_is)
    (case mi_Ways => k_is)
    (case mf_Ways => k_is)
    (case mp_Ways => k_is)
    (case na_Ways_many => k_is)
    (case na_Ways_toll => k_is)
    (case ea_Ways_is_state => k_is)
    (case ef_Ways_is_state => k_is)
    (case ea_Ways_is_wish => k_is)
    (case ef_Ways_is_wish => k_is)
    (case ea_Ways_moves => k_is)
    (case ef_Ways_moves => k_is)
    (case ea_Ways_price => k_is)
    (case ef_Ways_price => k_is)
    (case ea_Ways_priced => k_is)
    (case ef_Ways_priced => k_is)
    (case cg_Changer => k_is)
    (case ch_Changer => k_is)
    (case co_Changer => k_is)
    (case cs_Changer => k_is)
    (case mm_Changer => k_is)
    (case mi_Changer => k_is)
    (case mf_Changer => k_is)
    (case mp_Changer => k_is)
    (case na_Changer_reckoned => k_is)
    (case na_Changer_spent => k_is)
    (case na_Changer_standing => k_is)
    (case na_Changer_world => k_is)
    (case ea_Changer_charged => k_is)
    (case ef_Changer_charged => k_is)
    (case ea_Changer_learn => k_is)
    (case ef_Changer_learn => k_is)
    (case ea_Changer_pay => k_is)
    (case ef_Changer_pay => k_is)
    (case ea_Changer_price_to => k_is)
    (case ef_Changer_price_to => k_is)
    (case ea_Changer_state => k_is)
    (case ef_Changer_state => k_is)
    (case ea_Changer_target => k_is)
    (case ef_Changer_target => k_is)
    (case z_all => k_is)
    (case z_bool => k_is)
    (case z_int => k_is)
    (case z_isinstance => k_is)
    (case z_len => k_is)
    (case z_list => k_is)
    (case z_min => k_is)
    (case z_range => k_is)
    (case z_reversed => k_is)
    (case z_set => k_is)
    (case z_sorted => k_is)
    (case z_str => k_is)
    (case z_tuple => k_is)
    (case z_zip => k_is)
    (case zk_MOST_STATES => k_is)
    (case nt => kernel_rfl)
    (case ntb => (intro z; cases z))
